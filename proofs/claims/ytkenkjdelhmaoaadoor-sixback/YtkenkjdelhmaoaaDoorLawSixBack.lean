/- The walk of SixBack: true for every address and text. No conditions but what the library's variables hold. -/
import Derived.Test.YtkenkjdelhmaoaaDoorSix14
namespace Go.Proofs.YtkenkjdelhmaoaaDoor
set_option linter.unusedVariables false
set_option linter.unusedSimpArgs false
open Go.RowKit
def capB (c : UInt8) : UInt8 := if 97 ≤ c.toNat ∧ c.toNat ≤ 102 then c - 32 else c
theorem capB_sub {c : UInt8} (h : 97 ≤ c.toNat ∧ c.toNat ≤ 102) : ((capB c).toNat : Int) = (c.toNat : Int) - 32 := by
  have : ∀ k : Fin 256, 97 ≤ (k : Nat) ∧ (k : Nat) ≤ 102 → (UInt8.ofNat k - 32).toNat + 32 = (k : Nat) := by decide +kernel
  have h2 := this ⟨c.toNat, c.toNat_lt⟩ h
  dsimp only at h2
  rw [UInt8.ofNat_toNat] at h2
  unfold capB
  rw [if_pos h]
  omega
theorem capB_hex : ∀ k, k < 16 → hexV (capB (hexC k)) = some k := fun k hk => by
  have : ∀ k : Fin 16, hexV (capB (hexC k)) = some (k : Nat) := by decide +kernel
  exact this ⟨k, hk⟩
/-- the bytes of a row, the first j of them with capital letters -/
def CapAt (l : List UInt8) (g j : Nat) (w : World) : Prop := ∀ k (h : k < l.length), w.cell? ⟨g, k, none⟩ = some (.int .u8 ((if k < j then capB l[k] else l[k]).toNat : Int)) ∧ w.frozen? ⟨g, k, none⟩ = false
theorem CapAt.step {l : List UInt8} {g j : Nat} {w : World} (h : CapAt l g j w) (hj : j < l.length) (x : Int) (hx : x = ((capB l[j]).toNat : Int)) : CapAt l g (j + 1) (w.setCell ⟨g, j, none⟩ (.int .u8 x)) := by
  intro k hk
  refine ⟨?_, by rw [World.frozen?_setCell]; exact (h k hk).2⟩
  by_cases e : k = j
  · subst e
    rw [World.cell?_setCell_same (h := (h k hk).1), if_pos (by omega), hx]
  · rw [World.cell?_setCell_other (h := fun he => e (by injection he with _ h2; exact h2.symm)), (h k hk).1]
    by_cases e2 : k < j
    · rw [if_pos e2, if_pos (by omega)]
    · rw [if_neg e2, if_neg (by omega)]
theorem CapAt.skip {l : List UInt8} {g j : Nat} {w : World} (h : CapAt l g j w) (hj : j < l.length) (hc : capB l[j] = l[j]) : CapAt l g (j + 1) w := by
  intro k hk
  refine ⟨?_, (h k hk).2⟩
  by_cases e : k = j
  · subst e
    rw [(h k hk).1, if_neg (by omega), if_pos (by omega), hc]
  · rw [(h k hk).1]
    by_cases e2 : k < j
    · rw [if_pos e2, if_pos (by omega)]
    · rw [if_neg e2, if_neg (by omega)]
theorem bytesWorld_frozen (w : World) (s : ByteArray) (j : Nat) (hj : j < s.size) : (Lib.bytesWorld w 5 s).frozen? ⟨w.heap.size, j, none⟩ = false := by
  have h1 := Lib.bytesWorld_at_new w 5 s
  have h2 := Lib.bytesWorld_cell w 5 s j hj
  have h3 : j < (Lib.bytesCells w 5 s).size := by
    simp only [World.cell?, h1] at h2
    by_cases h : j < (Lib.bytesCells w 5 s).size
    · exact h
    · simp [Array.getElem?_eq_none (show (Lib.bytesCells w 5 s).size ≤ j by omega)] at h2
  simp [World.frozen?, h1]
  omega
set_option maxRecDepth 100000 in
set_option maxHeartbeats 1600000 in
theorem cap_t (l : List UInt8) (hl : l.length ≤ 1000) (w : World) : Calls Tryd.prog 31 #[.string ⟨l.toArray⟩] w fun e w' => e = .returned (.string ⟨(l.map capB).toArray⟩) ∧ Below w.heap.size w w' := by
  obtain ⟨t, ht⟩ : ∃ t : ByteArray, t = ⟨l.toArray⟩ := ⟨_, rfl⟩
  have hts : t.size = l.length := by rw [ht, bs_size]
  have htd : t.data.toList = l := by rw [ht]
  have hcv := Lib.run_convert_string_bytes (P := Tryd.prog) w 9 84 5 t (u := .string) Tryd.underlying9 Tryd.underlying84 Tryd.underlying5
  have hB : CapAt l w.heap.size 0 (Lib.bytesWorld w 5 t) := fun k hk => by
    refine ⟨?_, bytesWorld_frozen w t k (by omega)⟩
    rw [Lib.bytesWorld_cell w 5 t k (by omega), htd, if_neg (by omega)]
    simp [List.getD, List.getElem?_eq_getElem hk]
  have hb0 : Below w.heap.size w (Lib.bytesWorld w 5 t) := Lib.bytesWorld_below w _ t
  rw [hts] at hcv
  generalize Lib.bytesWorld w 5 t = W1 at *
  rw [← ht]
  clear ht hts htd
  generalize grownCap w l.length 0 5 = cap at *
  go_enter Tryd.func31, Tryd.ntmps31
  go_wp2_with fail
  go_loopw [4] (fun i wr => ∃ (j : Nat), j ≤ l.length ∧ i = .int .i64 (j : Nat) ∧ CapAt l w.heap.size j wr ∧ Below w.heap.size w wr) (fun i _ => l.length - (intOf i).toNat)
  case atStart => exact ⟨0, by omega, rfl, hB, hb0⟩
  case round =>
    clear hB hb0 hcv
    obtain ⟨j, hj, rfl, hC, hb⟩ := hrel
    have HC := Lib.hid hC
    have HB := Lib.hid hb
    clear hC hb
    by_cases hlt : j < l.length
    · have hlt' : (j : Int) < (l.length : Int) := by omega
      obtain ⟨c0, f0⟩ := HC.out j hlt
      rw [if_neg (Nat.lt_irrefl j)] at c0
      have hs := HC.out.step hlt
      have hk := HC.out.skip hlt
      generalize l[j] = c at *
      have c256 : c.toNat < 256 := c.toNat_lt
      have HS := Lib.hid hs
      have HK := Lib.hid hk
      clear hs hk
      by_cases h1 : 97 ≤ c.toNat
      · by_cases h2 : c.toNat ≤ 102
        · have h1' : (97 : Int) ≤ (c.toNat : Int) := by omega
          have h2' : (c.toNat : Int) ≤ 102 := by omega
          go_wp2
          exact ⟨⟨j + 1, by omega, by go_num, HS.out _ (capB_sub ⟨h1, h2⟩).symm, HB.out.setCell (Nat.le_refl _) _⟩, by simp [intOf]; omega⟩
        · have h1' : (97 : Int) ≤ (c.toNat : Int) := by omega
          have h2' : ¬ (c.toNat : Int) ≤ 102 := by omega
          go_wp2
          exact ⟨⟨j + 1, by omega, by go_num, HK.out (by unfold capB; rw [if_neg (fun h => h2 h.2)]), HB.out⟩, by simp [intOf]; omega⟩
      · have h1' : ¬ (97 : Int) ≤ (c.toNat : Int) := by omega
        go_wp2
        exact ⟨⟨j + 1, by omega, by go_num, HK.out (by unfold capB; rw [if_neg (fun h => h1 h.1)]), HB.out⟩, by simp [intOf]; omega⟩
    · have hjj : j = l.length := by omega
      subst hjj
      have hcb := run_convert_bytes_back (P := Tryd.prog) wr 84 9 5 ⟨w.heap.size, 0, none⟩ cap (l.map capB) Tryd.underlying84 Tryd.underlying5 Tryd.underlying9 (fun k hk => by
        have hk' : k < l.length := by simpa using hk
        rw [Addr.add_mid, Nat.zero_add, (HC.out k hk').1, if_pos hk']
        simp)
      rw [List.length_map] at hcb
      generalize hme : l.map capB = m at *
      have HME := Lib.hid hme
      clear hme
      go_wp2
      go_ret
      exact ⟨by rw [HME.out]; rfl, HB.out⟩
theorem joinTail_pos : ∀ (fs : List Nat), fs.length ≤ (Lib.joinTail [58] (fs.map hexD)).length
  | [] => by simp
  | x :: r => by
    have h1 := joinTail_pos r
    unfold Lib.joinTail at h1 ⊢
    simp at h1 ⊢
    omega
theorem print6_len (f : Nat → Int) (hf : ∀ k, 0 ≤ f k ∧ f k ≤ 65535) : 2 ≤ (print6 f).length ∧ (print6 f).length ≤ 39 := by
  obtain ⟨h1, _, h3⟩ := runS_is f
  unfold print6
  split
  · have hl := gl_len f
    have hlt := gl_lt hf
    generalize gl f = fs at *
    cases fs with
    | nil => cases hl
    | cons x r =>
      unfold joinH
      rw [List.map_cons, Lib.join_cons]
      have e1 := joinTail_len r (fun y hy => hlt y (List.mem_cons_of_mem _ hy))
      have e2 := joinTail_pos r
      have e3 := hexD_len x (hlt x (by simp))
      simp at hl
      rw [List.length_append]
      omega
  · have e1 := joinH_len ((gl f).take (runS f).1) (fun x hx => gl_lt hf x (List.mem_of_mem_take hx))
    have e2 := joinH_len ((gl f).drop ((runS f).1 + (runS f).2)) (fun x hx => gl_lt hf x (List.mem_of_mem_drop hx))
    simp [gl_len] at e1 e2 ⊢
    omega
theorem ofN_back (A : Int) : hi (ofN (lf (gl (grp A))) 8) = hi A ∧ lo (ofN (lf (gl (grp A))) 8) = lo A := by
  rw [ofN_congr 8 (fun i hi => lf_gl (grp A) (grp_range A) i hi), ofN_grp]
  exact ⟨hi_mod A, lo_mod A⟩
/-- Parse of what Print gives, also with other letters -/
theorem parse_print6 (A : Int) (κ : UInt8 → UInt8) (h58 : κ 58 = 58) (hκ : ∀ k, k < 16 → hexV (κ (hexC k)) = some k) (w : World) (hE : Env w) : Calls Tryd.prog 29 #[.string ⟨((print6 (grp A)).map κ).toArray⟩] w fun e w' => e = .returned (.tuple #[.agg #[.int .u64 (hi A), .int .u64 (lo A)], .int .i64 0]) ∧ Below w.heap.size w w' := by
  have hl := (print6_len (grp A) (grp_range A)).2
  refine (parse6_t ((print6 (grp A)).map κ) (by rw [List.length_map]; omega) w hE).mono ?_
  intro e w' hP
  rw [back6 κ h58 hκ (grp A) (grp_range A)] at hP
  obtain ⟨rfl, hb⟩ := hP
  rw [(ofN_back A).1, (ofN_back A).2]
  exact ⟨rfl, hb⟩
theorem parse_print6_id (A : Int) (w : World) (hE : Env w) : Calls Tryd.prog 29 #[.string ⟨(print6 (grp A)).toArray⟩] w fun e w' => e = .returned (.tuple #[.agg #[.int .u64 (hi A), .int .u64 (lo A)], .int .i64 0]) ∧ Below w.heap.size w w' := by
  have h := parse_print6 A id rfl (fun k hk => by
    have : ∀ k : Fin 16, hexV (id (hexC k)) = some (k : Nat) := by decide +kernel
    exact this ⟨k, hk⟩) w hE
  rwa [List.map_id] at h
/-- Parse of any text: some address, and no error or ErrForm -/
theorem parse6_any (l : List UInt8) (hl : l.length ≤ 4000000000) (w : World) (hE : Env w) : Calls Tryd.prog 29 #[.string ⟨l.toArray⟩] w fun e w' => (∃ (D er : Int), (er = 0 ∨ er = 3) ∧ e = .returned (.tuple #[.agg #[.int .u64 (hi D), .int .u64 (lo D)], .int .i64 er])) ∧ Below w.heap.size w w' := by
  refine (parse6_t l hl w hE).mono ?_
  intro e w' hP
  cases hq : parse6 l with
  | none =>
    rw [hq] at hP
    obtain ⟨rfl, hb⟩ := hP
    exact ⟨⟨0, 3, Or.inr rfl, rfl⟩, hb⟩
  | some gs =>
    rw [hq] at hP
    obtain ⟨rfl, hb⟩ := hP
    exact ⟨⟨_, 0, Or.inl rfl, rfl⟩, hb⟩
set_option maxRecDepth 100000 in
set_option maxHeartbeats 3200000 in
theorem sixBack_any (A : Int) (l : List UInt8) (w : World) (hE : Env6 w) : Calls Tryd.prog 8 #[.agg #[.int .u64 (hi A), .int .u64 (lo A)], .string ⟨l.toArray⟩] w fun e w' => e = .returned (.bool true) ∧ Below w.heap.size w w' := by
  go_enter Tryd.func8, Tryd.ntmps8
  by_cases hlen : 300 < l.length
  · have hlen' : (300 : Int) < (l.length : Int) := by omega
    go_wp2_with fail
    have hb0 : Below w.heap.size w (w.alloc (.cells #[.int .u64 (hi A), .int .u64 (lo A)] 40)) := (Below.refl _ _).alloc (Nat.le_refl _) _
    generalize w.alloc (.cells #[.int .u64 (hi A), .int .u64 (lo A)] 40) = w0 at *
    refine (alive4_t w0 (hE.later hb0)).mono ?_
    rintro e w2 ⟨rfl, hb2⟩
    have HB2 := Lib.hid (below_step hb0 hb2)
    clear hb0 hb2
    go_wp2
    go_ret
    exact ⟨rfl, HB2.out⟩
  · have hlen' : ¬ (300 : Int) < (l.length : Int) := by omega
    go_wp2_with fail
    have R0 := Row.new w #[.int .u64 (hi A), .int .u64 (lo A)] 40
    have hb0 : Below w.heap.size w (w.alloc (.cells #[.int .u64 (hi A), .int .u64 (lo A)] 40)) := (Below.refl _ _).alloc (Nat.le_refl _) _
    generalize w.alloc (.cells #[.int .u64 (hi A), .int .u64 (lo A)] 40) = w0 at *
    refine (print6_t A w0 (hE.later hb0)).mono ?_
    rintro e w1 ⟨rfl, hb1⟩
    have HR := Lib.hid (R0.later hb1)
    have HB := Lib.hid (below_step hb0 hb1)
    clear R0 hb0 hb1
    have hP1 := parse_print6_id A
    have hC1 := cap_t (print6 (grp A)) (by have := (print6_len (grp A) (grp_range A)).2; omega)
    have hP2 := parse_print6 A capB (by decide) capB_hex
    obtain ⟨t0, t1⟩ := print6_len (grp A) (grp_range A)
    generalize hm : (print6 (grp A)).map capB = tc at *
    generalize print6 (grp A) = t at *
    have t0' : ¬ (t.length : Int) < 2 := by omega
    have t1' : ¬ (39 : Int) < (t.length : Int) := by omega
    clear hm
    have HP1 := Lib.hid hP1
    have HC1 := Lib.hid hC1
    have HP2 := Lib.hid hP2
    clear hP1 hC1 hP2
    go_wp2_with fail
    refine (HP1.out w1 (hE.e.later HB.out)).mono ?_
    rintro e w2 ⟨rfl, hb2⟩
    have HR2 := Lib.hid (HR.out.later hb2)
    have HB2 := Lib.hid (below_step HB.out hb2)
    have a0 := (HR2.out.cell 0).trans (show _ = some (Value.int .u64 (hi A)) from rfl)
    have a1 := (HR2.out.cell 1).trans (show _ = some (Value.int .u64 (lo A)) from rfl)
    have hne := HR2.out.lt
    clear HR HB hb2 HP1
    go_wp2_with fail
    have R3 := HR2.out.alloc (.cells #[.int .u64 (hi A), .int .u64 (lo A)] 40)
    have hb3 : Below w2.heap.size w2 (w2.alloc (.cells #[.int .u64 (hi A), .int .u64 (lo A)] 40)) := (Below.refl _ _).alloc (Nat.le_refl _) _
    generalize w2.alloc (.cells #[.int .u64 (hi A), .int .u64 (lo A)] 40) = w3 at *
    refine (HC1.out w3).mono ?_
    rintro e w4 ⟨rfl, hb4⟩
    have HR4 := Lib.hid (R3.later hb4)
    have HB4 := Lib.hid (below_step (below_step HB2.out hb3) hb4)
    clear R3 hb3 hb4 HR2 HB2 HC1 a0 a1 hne
    go_wp2_with fail
    refine (HP2.out w4 (hE.e.later HB4.out)).mono ?_
    rintro e w5 ⟨rfl, hb5⟩
    have HR5 := Lib.hid (HR4.out.later hb5)
    have HB5 := Lib.hid (below_step HB4.out hb5)
    clear HR4 HB4 hb5 HP2
    go_wp2_with fail
    have RC := Row.new w5 #[.int .u64 (hi A), .int .u64 (lo A)] 40
    have R6 := HR5.out.alloc (.cells #[.int .u64 (hi A), .int .u64 (lo A)] 40)
    have hb6 : Below w5.heap.size w5 (w5.alloc (.cells #[.int .u64 (hi A), .int .u64 (lo A)] 40)) := (Below.refl _ _).alloc (Nat.le_refl _) _
    generalize w5.alloc (.cells #[.int .u64 (hi A), .int .u64 (lo A)] 40) = w6 at *
    have HB6 := Lib.hid (below_step HB5.out hb6)
    clear hb6 HB5 HR5
    generalize w5.heap.size = gc at *
    have HRC := Lib.hid RC
    have HR6 := Lib.hid R6
    clear RC R6
    refine (parse6_any l (by omega) w6 (hE.e.later HB6.out)).mono ?_
    rintro e w7 ⟨⟨D, er, her, rfl⟩, hb7⟩
    have HR7 := Lib.hid (HR6.out.later hb7)
    have HRC7 := Lib.hid (HRC.out.later hb7)
    have HB7 := Lib.hid (below_step HB6.out hb7)
    clear HR6 HRC HB6 hb7
    go_wp2_with fail
    have RD := Row.new w7 #[.int .u64 (hi D), .int .u64 (lo D)] 40
    have hb8 : Below w7.heap.size w7 (w7.alloc (.cells #[.int .u64 (hi D), .int .u64 (lo D)] 40)) := (Below.refl _ _).alloc (Nat.le_refl _) _
    generalize w7.alloc (.cells #[.int .u64 (hi D), .int .u64 (lo D)] 40) = w8 at *
    have R8 := HR7.out.later hb8
    have RC8 := HRC7.out.later hb8
    have HB8 := Lib.hid (below_step HB7.out hb8)
    clear HR7 HRC7 HB7 hb8
    generalize w7.heap.size = gd at *
    refine (print6_t D w8 (hE.later HB8.out)).mono ?_
    rintro e w9 ⟨rfl, hb9⟩
    have HR9 := Lib.hid (R8.later hb9)
    have HRC9 := Lib.hid (RC8.later hb9)
    have HRD9 := Lib.hid (RD.later hb9)
    have HB9 := Lib.hid (below_step HB8.out hb9)
    have HPD := Lib.hid (parse_print6_id D)
    clear R8 RC8 RD HB8 hb9
    generalize print6 (grp D) = td at *
    go_wp2_with fail
    refine (HPD.out w9 (hE.e.later HB9.out)).mono ?_
    rintro e wa ⟨rfl, hba⟩
    have HRa := Lib.hid (HR9.out.later hba)
    have HRCa := Lib.hid (HRC9.out.later hba)
    have HRDa := Lib.hid (HRD9.out.later hba)
    have HBa := Lib.hid (below_step HB9.out hba)
    clear HR9 HRC9 HRD9 HB9 hba HPD
    go_wp2_with fail
    have RH := Row.new wa #[.int .u64 (hi D), .int .u64 (lo D)] 40
    have hbb : Below wa.heap.size wa (wa.alloc (.cells #[.int .u64 (hi D), .int .u64 (lo D)] 40)) := (Below.refl _ _).alloc (Nat.le_refl _) _
    generalize wa.alloc (.cells #[.int .u64 (hi D), .int .u64 (lo D)] 40) = wb at *
    have Rb := HRa.out.later hbb
    have RCb := HRCa.out.later hbb
    have RDb := HRDa.out.later hbb
    have HBb := Lib.hid (below_step HBa.out hbb)
    clear HRa HRCa HRDa HBa hbb
    generalize wa.heap.size = gh at *
    refine (alive4_t wb (hE.later HBb.out)).mono ?_
    rintro e wc ⟨rfl, hbc⟩
    replace Rb := Rb.later hbc
    replace RCb := RCb.later hbc
    replace RDb := RDb.later hbc
    replace RH := RH.later hbc
    have HBc := Lib.hid (below_step HBb.out hbc)
    have a0 := (Rb.cell 0).trans (show _ = some (Value.int .u64 (hi A)) from rfl)
    have a1 := (Rb.cell 1).trans (show _ = some (Value.int .u64 (lo A)) from rfl)
    have c0 := (RCb.cell 0).trans (show _ = some (Value.int .u64 (hi A)) from rfl)
    have c1 := (RCb.cell 1).trans (show _ = some (Value.int .u64 (lo A)) from rfl)
    have d0 := (RDb.cell 0).trans (show _ = some (Value.int .u64 (hi D)) from rfl)
    have d1 := (RDb.cell 1).trans (show _ = some (Value.int .u64 (lo D)) from rfl)
    have h0 := (RH.cell 0).trans (show _ = some (Value.int .u64 (hi D)) from rfl)
    have h1 := (RH.cell 1).trans (show _ = some (Value.int .u64 (lo D)) from rfl)
    clear Rb RCb RDb RH HBb hbc
    rcases her with rfl | rfl
    · go_wp2
      go_ret
      exact ⟨rfl, HBc.out⟩
    · go_wp2
      go_ret
      exact ⟨rfl, HBc.out⟩
end Go.Proofs.YtkenkjdelhmaoaaDoor
