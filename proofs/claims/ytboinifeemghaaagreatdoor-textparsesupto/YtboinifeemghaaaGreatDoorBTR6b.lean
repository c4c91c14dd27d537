/- TR6b: what the theorem needs of these texts. No conditions beyond those that are written. -/
import Derived.Test.YtboinifeemghaaaGreatDoorBTR6
set_option linter.unusedSimpArgs false
set_option linter.unusedVariables false
set_option maxHeartbeats 1600000
set_option maxRecDepth 100000
namespace Go.Proofs.YtboinifeemghaaaGreatDoor
open Go.RowKit
theorem rps_no2 (s : Sp) (t : List UInt8) (hl : t.length ≤ 2000000) (cn : Int) (hc : ¬ cn = 1) (w : World)
  (HT : ((cntT t t.length : Nat) : Int) = cn)
  (HR : ∀ w', Below w.heap.size w w' → Calls Tryz.prog 50 #[.agg #[.int .i64 2, .int .i64 s.d0.kind, .int .i64 s.d0.side, .int .i64 s.d0.step, .int .i64 s.d1.kind, .int .i64 s.d1.side, .int .i64 s.d1.step]] w' fun e w'' => e = .returned (.bool true) ∧ Below w'.heap.size w' w'')
  : Calls Tryz.prog 18 #[.agg #[.int .i64 2, .int .i64 s.d0.kind, .int .i64 s.d0.side, .int .i64 s.d0.step, .int .i64 s.d1.kind, .int .i64 s.d1.side, .int .i64 s.d1.step], .string ⟨t.toArray⟩] w fun e w' => e = .returned (.tuple #[.agg #[.int .i64 0, .int .i64 0, .int .i64 0, .int .i64 0, .int .u64 0, .int .u64 0, .string ⟨#[]⟩, .int .i64 0, .int .i64 0, .int .u64 0, .int .u64 0, .string ⟨#[]⟩], .int .i64 3]) ∧ Below w.heap.size w w' := by
 have hw0 : IntKind.i64.wrap 1 = 1 := by decide
 have hcn : (cn != IntKind.i64.wrap 1) = true := by rw [hw0]; simpa using hc
 have hcn2 : (cn != 1) = true := by simpa using hc
 clear hw0
 obtain ⟨Rc, Rr, hb0⟩ := two_rows w #[.int .i64 2, .int .i64 s.d0.kind, .int .i64 s.d0.side, .int .i64 s.d0.step, .int .i64 s.d1.kind, .int .i64 s.d1.side, .int .i64 s.d1.step] #[.int .i64 0, .int .i64 0, .int .i64 0, .int .i64 0, .int .u64 0, .int .u64 0, .string ⟨#[]⟩, .int .i64 0, .int .i64 0, .int .u64 0, .int .u64 0, .string ⟨#[]⟩] 36 40
 (try clear c0 c1 c2 c3 c4 c5 c6); obtain ⟨c0, c1, c2, c3, c4, c5, c6⟩ := row7 Rc
 (try clear r0 r1 r2 r3 r4 r5 r6 r7 r8 r9 r10 r11); obtain ⟨r0, r1, r2, r3, r4, r5, r6, r7, r8, r9, r10, r11⟩ := row12 Rr
 go_enter Tryz.func18, Tryz.ntmps18
 go_wp2_with fail
 refine (HR _ hb0).mono ?_
 rintro e w1 ⟨rfl, hb⟩
 replace Rc := Rc.later hb
 replace Rr := Rr.later hb
 replace hb0 := below_step hb0 hb
 clear hb
 have lc := Rc.lt
 have lr := Rr.lt
 (try clear c0 c1 c2 c3 c4 c5 c6); obtain ⟨c0, c1, c2, c3, c4, c5, c6⟩ := row7 Rc
 (try clear r0 r1 r2 r3 r4 r5 r6 r7 r8 r9 r10 r11); obtain ⟨r0, r1, r2, r3, r4, r5, r6, r7, r8, r9, r10, r11⟩ := row12 Rr
 have hsz := bsz t
 go_wp2_with fail
 go_loopw [6, 7, 8] (fun x y z wr => ∃ i : Nat, i ≤ t.length ∧ x = .int .i64 (cntT t i) ∧ y = .int .i64 (lastT t i) ∧ z = .int .i64 i ∧ wr = w1) (fun _ _ z _ => t.length - (intOf z).toNat)
 case atStart => exact ⟨0, by omega, rfl, rfl, rfl, rfl⟩
 case round =>
  obtain ⟨i, hi, hx, hy, rfl, rfl⟩ := hrel
  by_cases hlt : i < t.length
  ·obtain ⟨c, hlj⟩ : ∃ c, t[i]? = some c := ⟨t[i], List.getElem?_eq_getElem hlt⟩
   have hsp : i < (⟨t.toArray⟩ : ByteArray).size := by rw [hsz]; exact hlt
   have hch : (⟨t.toArray⟩ : ByteArray)[i]'hsp = c := by
    have := (List.getElem?_eq_some_iff.1 hlj).2
    exact this
   have hcl := cntT_le t i
   subst hx hy
   have hltn : (i : Int) < t.length := by omega
   by_cases h62 : c = 62
   ·subst h62
    have ec := cntT_yes hlj
    have el := lastT_yes hlj
    clear hlj
    go_wp2_with fail
    refine ⟨⟨i + 1, by omega, ?_, ?_, by congr 1 <;> omega, by first | rfl | trivial⟩, by simp [intOf] <;> omega⟩
    ·rw [ec]; congr 1 <;> omega
    ·rw [el]
   ·have n62 : ¬ (c.toNat : Int) = 62 := fun e => h62 (UInt8.toNat.inj (by rw [show (62 : UInt8).toNat = 62 from rfl]; omega))
    have e62 : ((c.toNat : Int) == 62) = false := by simpa using n62
    have ec := cntT_no hlj h62
    have el := lastT_no hlj h62
    clear hlj
    go_wp2_with fail
    refine ⟨⟨i + 1, by omega, ?_, ?_, by congr 1 <;> omega, by first | rfl | trivial⟩, by simp [intOf] <;> omega⟩
    ·rw [ec]
    ·rw [el]
  ·have hit : i = t.length := by omega
   have hltn : ¬ (i : Int) < t.length := by omega
   rw [hit] at hx
   rw [HT] at hx
   subst hx
   subst hy
   obtain ⟨rf0, rf1, rf2, rf3, rf4, rf5, rf6, rf7, rf8, rf9, rf10, rf11⟩ := fz12 Rr
   go_wp2
   obtain ⟨w2, hwk, hwn⟩ := pnm wr (w.heap.size + 1) 0 [.int .i64 0, .int .i64 0, .int .i64 0, .int .i64 0, .int .u64 0, .int .u64 0, .string ⟨#[]⟩, .int .i64 0, .int .i64 0, .int .u64 0, .int .u64 0, .string ⟨#[]⟩]
   simp only [World.setCells] at hwk
   rw [← hwk]; clear hwk
   replace Rr : Row w2 (w.heap.size + 1) #[.int .i64 0, .int .i64 0, .int .i64 0, .int .i64 0, .int .u64 0, .int .u64 0, .string ⟨#[]⟩, .int .i64 0, .int .i64 0, .int .u64 0, .int .u64 0, .string ⟨#[]⟩] 40 := psm hwn Rr (by simp [setL])
   replace Rc := prf hwn Rc
   replace hb0 := pbl hwn hb0
   clear hwn c0 c1 c2 c3 c4 c5 c6 r0 r1 r2 r3 r4 r5 r6 r7 r8 r9 r10 r11
   (try clear rf0 rf1 rf2 rf3 rf4 rf5 rf6 rf7 rf8 rf9 rf10 rf11)
   (try clear c0 c1 c2 c3 c4 c5 c6); obtain ⟨c0, c1, c2, c3, c4, c5, c6⟩ := row7 Rc
   (try clear r0 r1 r2 r3 r4 r5 r6 r7 r8 r9 r10 r11); obtain ⟨r0, r1, r2, r3, r4, r5, r6, r7, r8, r9, r10, r11⟩ := row12 Rr
   refine bodyPost_ret (v := .tuple #[.agg #[.int .i64 0, .int .i64 0, .int .i64 0, .int .i64 0, .int .u64 0, .int .u64 0, .string ⟨#[]⟩, .int .i64 0, .int .i64 0, .int .u64 0, .int .u64 0, .string ⟨#[]⟩], .int .i64 3]) (by simp [results, Tryz.results18, go_sem, r0, r1, r2, r3, r4, r5, r6, r7, r8, r9, r10, r11]) rfl ⟨rfl, hb0⟩
theorem rps_2e (s : Sp) (t a b : List UInt8) (m : Nat) (hl : t.length ≤ 2000000) (ht : t = a ++ 62 :: b) (hm : m = a.length) (hb : (62 : UInt8) ∉ b) (l0 : Int) (k0 : Ke) (er : Int) (he : ¬ er = 0) (w : World)
  (HT : ((cntT t t.length : Nat) : Int) = 1)
  (HR : ∀ w', Below w.heap.size w w' → Calls Tryz.prog 50 #[.agg #[.int .i64 2, .int .i64 s.d0.kind, .int .i64 s.d0.side, .int .i64 s.d0.step, .int .i64 s.d1.kind, .int .i64 s.d1.side, .int .i64 s.d1.step]] w' fun e w'' => e = .returned (.bool true) ∧ Below w'.heap.size w' w'')
  (HP0 : ∀ w', Below w.heap.size w w' → Calls Tryz.prog 9 #[.agg #[.int .i64 s.d0.kind, .int .i64 s.d0.side, .int .i64 s.d0.step], .string ⟨a.toArray⟩] w' fun e w'' => e = .returned (.tuple #[.int .i64 l0, kv k0, .int .i64 er]) ∧ Below w'.heap.size w' w'')
  : Calls Tryz.prog 18 #[.agg #[.int .i64 2, .int .i64 s.d0.kind, .int .i64 s.d0.side, .int .i64 s.d0.step, .int .i64 s.d1.kind, .int .i64 s.d1.side, .int .i64 s.d1.step], .string ⟨t.toArray⟩] w fun e w' => e = .returned (.tuple #[.agg #[.int .i64 0, .int .i64 0, .int .i64 0, .int .i64 0, .int .u64 0, .int .u64 0, .string ⟨#[]⟩, .int .i64 0, .int .i64 0, .int .u64 0, .int .u64 0, .string ⟨#[]⟩], .int .i64 er]) ∧ Below w.heap.size w w' := by
 have heb : (er == 0) = false := by simpa using he
 have hen : (er != 0) = true := by simpa using he
 have hcz : ((1 : Int) != IntKind.i64.wrap 1) = false := by decide
 unfold kv at *
 have hlen : m + 1 + b.length = t.length := by rw [ht, hm, List.length_append, List.length_cons]; omega
 have HA : lastT t t.length = m := by
  have h := lastT_at (a := a) hb b.length (Nat.le_refl _)
  rw [← ht, ← hm, hlen] at h
  exact h
 have hx1 : (⟨t.toArray⟩ : ByteArray).extract (m + 1) t.length = ⟨b.toArray⟩ := by
  rw [ext_l, List.take_length, ht, hm, ← List.drop_drop, List.drop_left]; rfl
 have hx0 : (⟨t.toArray⟩ : ByteArray).extract 0 m = ⟨a.toArray⟩ := by
  rw [ext_l, ht, hm, List.take_left]; rfl
 have hml : m < t.length := by omega
 clear ht hm hb
 obtain ⟨Rc, Rr, hb0⟩ := two_rows w #[.int .i64 2, .int .i64 s.d0.kind, .int .i64 s.d0.side, .int .i64 s.d0.step, .int .i64 s.d1.kind, .int .i64 s.d1.side, .int .i64 s.d1.step] #[.int .i64 0, .int .i64 0, .int .i64 0, .int .i64 0, .int .u64 0, .int .u64 0, .string ⟨#[]⟩, .int .i64 0, .int .i64 0, .int .u64 0, .int .u64 0, .string ⟨#[]⟩] 36 40
 (try clear c0 c1 c2 c3 c4 c5 c6); obtain ⟨c0, c1, c2, c3, c4, c5, c6⟩ := row7 Rc
 (try clear r0 r1 r2 r3 r4 r5 r6 r7 r8 r9 r10 r11); obtain ⟨r0, r1, r2, r3, r4, r5, r6, r7, r8, r9, r10, r11⟩ := row12 Rr
 go_enter Tryz.func18, Tryz.ntmps18
 go_wp2_with fail
 refine (HR _ hb0).mono ?_
 rintro e w1 ⟨rfl, hb⟩
 replace Rc := Rc.later hb
 replace Rr := Rr.later hb
 replace hb0 := below_step hb0 hb
 clear hb
 have lc := Rc.lt
 have lr := Rr.lt
 (try clear c0 c1 c2 c3 c4 c5 c6); obtain ⟨c0, c1, c2, c3, c4, c5, c6⟩ := row7 Rc
 (try clear r0 r1 r2 r3 r4 r5 r6 r7 r8 r9 r10 r11); obtain ⟨r0, r1, r2, r3, r4, r5, r6, r7, r8, r9, r10, r11⟩ := row12 Rr
 have hsz := bsz t
 go_wp2_with fail
 go_loopw [6, 7, 8] (fun x y z wr => ∃ i : Nat, i ≤ t.length ∧ x = .int .i64 (cntT t i) ∧ y = .int .i64 (lastT t i) ∧ z = .int .i64 i ∧ wr = w1) (fun _ _ z _ => t.length - (intOf z).toNat)
 case atStart => exact ⟨0, by omega, rfl, rfl, rfl, rfl⟩
 case round =>
  obtain ⟨i, hi, hx, hy, rfl, rfl⟩ := hrel
  by_cases hlt : i < t.length
  ·obtain ⟨c, hlj⟩ : ∃ c, t[i]? = some c := ⟨t[i], List.getElem?_eq_getElem hlt⟩
   have hsp : i < (⟨t.toArray⟩ : ByteArray).size := by rw [hsz]; exact hlt
   have hch : (⟨t.toArray⟩ : ByteArray)[i]'hsp = c := by
    have := (List.getElem?_eq_some_iff.1 hlj).2
    exact this
   have hcl := cntT_le t i
   subst hx hy
   have hltn : (i : Int) < t.length := by omega
   by_cases h62 : c = 62
   ·subst h62
    have ec := cntT_yes hlj
    have el := lastT_yes hlj
    clear hlj
    go_wp2_with fail
    refine ⟨⟨i + 1, by omega, ?_, ?_, by congr 1 <;> omega, by first | rfl | trivial⟩, by simp [intOf] <;> omega⟩
    ·rw [ec]; congr 1 <;> omega
    ·rw [el]
   ·have n62 : ¬ (c.toNat : Int) = 62 := fun e => h62 (UInt8.toNat.inj (by rw [show (62 : UInt8).toNat = 62 from rfl]; omega))
    have e62 : ((c.toNat : Int) == 62) = false := by simpa using n62
    have ec := cntT_no hlj h62
    have el := lastT_no hlj h62
    clear hlj
    go_wp2_with fail
    refine ⟨⟨i + 1, by omega, ?_, ?_, by congr 1 <;> omega, by first | rfl | trivial⟩, by simp [intOf] <;> omega⟩
    ·rw [ec]
    ·rw [el]
  ·have hit : i = t.length := by omega
   have hltn : ¬ (i : Int) < t.length := by omega
   rw [hit] at hx
   rw [HT] at hx
   subst hx
   rw [hit] at hy
   rw [HA] at hy
   subst hy
   go_wp2_with fail
   have nmc := Rc.lt
   have nmr := Rr.lt
   replace Rc := Rc.alloc (.cells #[.string ⟨t.toArray⟩] 9)
   replace Rr := Rr.alloc (.cells #[.string ⟨t.toArray⟩] 9)
   have Rm := Row.new wr #[Value.string ⟨t.toArray⟩] 9
   have mm := hb0.size
   replace hb0 := hb0.alloc hb0.size (.cells #[.string ⟨t.toArray⟩] 9)
   (try clear c0 c1 c2 c3 c4 c5 c6); obtain ⟨c0, c1, c2, c3, c4, c5, c6⟩ := row7 Rc
   (try clear r0 r1 r2 r3 r4 r5 r6 r7 r8 r9 r10 r11); obtain ⟨r0, r1, r2, r3, r4, r5, r6, r7, r8, r9, r10, r11⟩ := row12 Rr
   replace m0 := (Rm.cell 0).trans (show _ = some (Value.string ⟨t.toArray⟩) from rfl)
   have hwj : IntKind.i64.wrap ((m : Int) + 1) = (m : Int) + 1 := by rw [IntKind.wrap_i64]; omega
   have hj0 : (0 : Int) ≤ (m : Int) + 1 := by omega
   have hj1 : (m : Int) + 1 ≤ t.length := by omega
   have hjt : ((m : Int) + 1).toNat = m + 1 := by omega
   have hml2 : m ≤ t.length := by omega
   generalize (World.alloc wr (.cells #[.string ⟨t.toArray⟩] 9)) = w2 at *
   go_region
   clear hwj hj0 hj1 hjt
   go_wp2_with fail
   have nvc := Rc.lt
   have nvr := Rr.lt
   have nvm := Rm.lt
   replace Rc := Rc.alloc (.cells #[.string ⟨a.toArray⟩, .string ⟨b.toArray⟩] 9)
   replace Rr := Rr.alloc (.cells #[.string ⟨a.toArray⟩, .string ⟨b.toArray⟩] 9)
   replace Rm := Rm.alloc (.cells #[.string ⟨a.toArray⟩, .string ⟨b.toArray⟩] 9)
   have Rv := Row.new w2 #[Value.string ⟨a.toArray⟩, Value.string ⟨b.toArray⟩] 9
   have mv := hb0.size
   replace hb0 := hb0.alloc hb0.size (.cells #[.string ⟨a.toArray⟩, .string ⟨b.toArray⟩] 9)
   (try clear c0 c1 c2 c3 c4 c5 c6); obtain ⟨c0, c1, c2, c3, c4, c5, c6⟩ := row7 Rc
   (try clear r0 r1 r2 r3 r4 r5 r6 r7 r8 r9 r10 r11); obtain ⟨r0, r1, r2, r3, r4, r5, r6, r7, r8, r9, r10, r11⟩ := row12 Rr
   replace m0 := (Rm.cell 0).trans (show _ = some (Value.string ⟨t.toArray⟩) from rfl)
   (try clear v0 v1); obtain ⟨v0, v1⟩ := row2 Rv
   replace Rc := Rc.alloc (.cells #[.int .i64 0, .int .i64 0, .int .i64 0, .int .i64 0, .int .u64 0, .int .u64 0, .string ⟨#[]⟩, .int .i64 0, .int .i64 0, .int .u64 0, .int .u64 0, .string ⟨#[]⟩] 40)
   replace Rr := Rr.alloc (.cells #[.int .i64 0, .int .i64 0, .int .i64 0, .int .i64 0, .int .u64 0, .int .u64 0, .string ⟨#[]⟩, .int .i64 0, .int .i64 0, .int .u64 0, .int .u64 0, .string ⟨#[]⟩] 40)
   replace Rm := Rm.alloc (.cells #[.int .i64 0, .int .i64 0, .int .i64 0, .int .i64 0, .int .u64 0, .int .u64 0, .string ⟨#[]⟩, .int .i64 0, .int .i64 0, .int .u64 0, .int .u64 0, .string ⟨#[]⟩] 40)
   replace Rv := Rv.alloc (.cells #[.int .i64 0, .int .i64 0, .int .i64 0, .int .i64 0, .int .u64 0, .int .u64 0, .string ⟨#[]⟩, .int .i64 0, .int .i64 0, .int .u64 0, .int .u64 0, .string ⟨#[]⟩] 40)
   have Rq := Row.new (World.alloc w2 (.cells #[.string ⟨a.toArray⟩, .string ⟨b.toArray⟩] 9)) #[Value.int .i64 0, Value.int .i64 0, Value.int .i64 0, Value.int .i64 0, Value.int .u64 0, Value.int .u64 0, Value.string ⟨#[]⟩, Value.int .i64 0, Value.int .i64 0, Value.int .u64 0, Value.int .u64 0, Value.string ⟨#[]⟩] 40
   simp only [World.size_alloc] at Rq
   have mq := hb0.size
   replace hb0 := hb0.alloc hb0.size (.cells #[.int .i64 0, .int .i64 0, .int .i64 0, .int .i64 0, .int .u64 0, .int .u64 0, .string ⟨#[]⟩, .int .i64 0, .int .i64 0, .int .u64 0, .int .u64 0, .string ⟨#[]⟩] 40)
   (try clear c0 c1 c2 c3 c4 c5 c6); obtain ⟨c0, c1, c2, c3, c4, c5, c6⟩ := row7 Rc
   (try clear r0 r1 r2 r3 r4 r5 r6 r7 r8 r9 r10 r11); obtain ⟨r0, r1, r2, r3, r4, r5, r6, r7, r8, r9, r10, r11⟩ := row12 Rr
   replace m0 := (Rm.cell 0).trans (show _ = some (Value.string ⟨t.toArray⟩) from rfl)
   (try clear v0 v1); obtain ⟨v0, v1⟩ := row2 Rv
   (try clear q0 q1 q2 q3 q4 q5 q6 q7 q8 q9 q10 q11); obtain ⟨q0, q1, q2, q3, q4, q5, q6, q7, q8, q9, q10, q11⟩ := row12 Rq
   clear c0 c1 c2 c3 c4 c5 c6 r0 r1 r2 r3 r4 r5 r6 r7 r8 r9 r10 r11 m0 v0 v1 q0 q1 q2 q3 q4 q5 q6 q7 q8 q9 q10 q11
   replace Rc := Rc.drew
   replace Rr := Rr.drew
   replace Rm := Rm.drew
   replace Rv := Rv.drew
   replace Rq := Rq.drew
   replace hb0 := hb0.drew
   generalize World.drew (World.alloc (World.alloc w2 (.cells #[.string ⟨a.toArray⟩, .string ⟨b.toArray⟩] 9)) (.cells #[.int .i64 0, .int .i64 0, .int .i64 0, .int .i64 0, .int .u64 0, .int .u64 0, .string ⟨#[]⟩, .int .i64 0, .int .i64 0, .int .u64 0, .int .u64 0, .string ⟨#[]⟩] 40)) = w3 at *
   have lc := Rc.lt
   have lr := Rr.lt
   have lm := Rm.lt
   have lv := Rv.lt
   have lq := Rq.lt
   (try clear c0 c1 c2 c3 c4 c5 c6); obtain ⟨c0, c1, c2, c3, c4, c5, c6⟩ := row7 Rc
   (try clear r0 r1 r2 r3 r4 r5 r6 r7 r8 r9 r10 r11); obtain ⟨r0, r1, r2, r3, r4, r5, r6, r7, r8, r9, r10, r11⟩ := row12 Rr
   replace m0 := (Rm.cell 0).trans (show _ = some (Value.string ⟨t.toArray⟩) from rfl)
   (try clear v0 v1); obtain ⟨v0, v1⟩ := row2 Rv
   (try clear q0 q1 q2 q3 q4 q5 q6 q7 q8 q9 q10 q11); obtain ⟨q0, q1, q2, q3, q4, q5, q6, q7, q8, q9, q10, q11⟩ := row12 Rq
   refine wp_loop_rounds 3 ?_
   rw [rounds_succ]
   go_wp2_with fail
   have hbW := hb0
   replace hb0 := Below.refl (Array.size (World.heap w3)) w3
   have lwc := Rc.lt
   have lwr := Rr.lt
   have lwm := Rm.lt
   have lwv := Rv.lt
   have lwq := Rq.lt
   go_cut [13, 12, 14] (fun s13 s12 s14 wx => ∃ gx0 : Nat, s13 = .pointer (some ⟨gx0, 0, none⟩) ∧ s12 = .int .i64 l0 ∧ s14 = .int .i64 er ∧ w3.heap.size ≤ gx0 ∧ Row wx gx0 #[.int .i64 k0.kind, .int .i64 k0.len, .int .u64 k0.h, .int .u64 k0.l, .string ⟨k0.path.toArray⟩] 26 ∧ Row wx w.heap.size #[.int .i64 2, .int .i64 s.d0.kind, .int .i64 s.d0.side, .int .i64 s.d0.step, .int .i64 s.d1.kind, .int .i64 s.d1.side, .int .i64 s.d1.step] 36 ∧ Row wx (w.heap.size + 1) #[.int .i64 0, .int .i64 0, .int .i64 0, .int .i64 0, .int .u64 0, .int .u64 0, .string ⟨#[]⟩, .int .i64 0, .int .i64 0, .int .u64 0, .int .u64 0, .string ⟨#[]⟩] 40 ∧ Row wx wr.heap.size #[.string ⟨t.toArray⟩] 9 ∧ Row wx w2.heap.size #[.string ⟨a.toArray⟩, .string ⟨b.toArray⟩] 9 ∧ Row wx (w2.heap.size + 1) #[.int .i64 0, .int .i64 0, .int .i64 0, .int .i64 0, .int .u64 0, .int .u64 0, .string ⟨#[]⟩, .int .i64 0, .int .i64 0, .int .u64 0, .int .u64 0, .string ⟨#[]⟩] 40 ∧ Below w3.heap.size w3 wx)
   case first =>
    refine wp_region_held_drew (S := (fun w' => w'.cell? ⟨w.heap.size, 1, none⟩ = some (Value.int .i64 s.d0.kind) ∧ w'.cell? ⟨w.heap.size, 2, none⟩ = some (Value.int .i64 s.d0.side) ∧ w'.cell? ⟨w.heap.size, 3, none⟩ = some (Value.int .i64 s.d0.step) ∧ w'.cell? ⟨w2.heap.size, 0, none⟩ = some (Value.string ⟨a.toArray⟩))) (by kernel_rfl) ?hSr1_ (fun hH => ?_)
    case hSr1_ => (exact ⟨c1, c2, c3, v0⟩)
    (clear c0 c1 c2 c3 c4 c5 c6 r0 r1 r2 r3 r4 r5 r6 r7 r8 r9 r10 r11 m0 v0 v1 q0 q1 q2 q3 q4 q5 q6 q7 q8 q9 q10 q11; (replace Rc := Rc.drew); (replace Rr := Rr.drew); (replace Rm := Rm.drew); (replace Rv := Rv.drew); (replace Rq := Rq.drew); (replace hb0 := hb0.drew); (generalize World.drew w3 = wq at *))
    refine tk 0 ⟨some 59, .move (.tmp 11), 3, _, _, _⟩ hH ?_
    refine tk 1 ⟨some 60, .fieldAddr 36 (.tmp 2) 1, 0, _, _, _⟩ hH ?_
    refine tk 2 ⟨some 61, .indexAddr 34 (.tmp 60) (.tmp 59), 0, _, _, _⟩ hH ?_
    refine tk 3 ⟨some 62, .load 23 (.tmp 61), 23, _, _, _⟩ hH ?_
    refine tk 4 ⟨some 63, .move (.tmp 9), 77, _, _, _⟩ hH ?_
    refine tk 5 ⟨some 64, .move (.tmp 11), 3, _, _, _⟩ hH ?_
    refine tk 6 ⟨some 65, .indexAddr 77 (.tmp 63) (.tmp 64), 0, _, _, _⟩ hH ?_
    refine tk 7 ⟨some 66, .load 9 (.tmp 65), 9, _, _, _⟩ hH ?_
    refine wpAnyH_ready (rs := [8, 13]) (by kernel_rfl) (by simp) ?_
    refine AllReadyH.cons (o := ⟨some 67, .call { callee := .value (.func 9), args := #[.tmp 62, .tmp 66], argTypes := #[23, 9] }, 28, _, _, _⟩) rfl (fun K hK => ?_) ?_
    ·(go_simp; (refine (HP0 _ (below_step hbW hb0)).mono ?_); (rintro e wz ⟨rfl, hb⟩); (replace Rc := Rc.later hb); (replace Rr := Rr.later hb); (replace Rm := Rm.later hb); (replace Rv := Rv.later hb); (replace Rq := Rq.later hb); (try replace Rx0 := Rx0.later hb); (replace hb0 := below_step hb0 hb); go_wp2_with fail)
     refine hK.out _ _ ?hSr1_9_8 fun _ => ?_
     case hSr1_9_8 => (exact kc hb (kc hb (kc hb (cl hb))) hH)
     clear hK K hH; rename_i hH
     rename World => wq
     (try simp only [Act.put, nz1, nz2, nz3])
     refine tk 9 ⟨some 58, .move (.tmp 67), 28, _, _, _⟩ hH ?_
     refine tk 10 ⟨some 68, .extract (.tmp 58) 0, 3, _, _, _⟩ hH ?_
     refine tk 11 ⟨some 69, .extract (.tmp 58) 1, 26, _, _, _⟩ hH ?_
     refine tk 12 ⟨some 70, .extract (.tmp 58) 2, 27, _, _, _⟩ hH ?_
     refine wpAnyH_ready (rs := [13]) (by kernel_rfl) (by simp) ?_
     refine AllReadyH.cons (o := ⟨some 13, .alloc 26, 0, _, _, _⟩) rfl (fun K hK => ?_) AllReadyH.nil
     (go_simp; (have mx0 := hb0.size); (have nx0_c := Rc.lt); (have nx0_r := Rr.lt); (have nx0_m := Rm.lt); (have nx0_v := Rv.lt); (have nx0_q := Rq.lt); (have Rx0 := Row.new wq #[.int .i64 0, .int .i64 0, .int .u64 0, .int .u64 0, .string ⟨#[]⟩] 26); (have hb : Below wq.heap.size wq (World.alloc wq (.cells #[.int .i64 0, .int .i64 0, .int .u64 0, .int .u64 0, .string ⟨#[]⟩] 26)) := (Below.refl _ _).alloc (Nat.le_refl _) _); (replace Rc := Rc.later hb); (replace Rr := Rr.later hb); (replace Rm := Rm.later hb); (replace Rv := Rv.later hb); (replace Rq := Rq.later hb); (replace hb0 := below_step hb0 hb); (have hSn := kc hb (kc hb (kc hb (cl hb))) hH); clear hb; generalize World.alloc wq (.cells #[.int .i64 0, .int .i64 0, .int .u64 0, .int .u64 0, .string ⟨#[]⟩] 26) = wz at *; generalize wq.heap.size = gx0 at *)
     refine hK.out _ _ ?hSr1_14_13 fun _ => ?_
     case hSr1_14_13 => (exact hSn)
     clear hK K hH; rename_i hH
     rename World => wq
     (try simp only [Act.put, nz1, nz2, nz3])
     refine tk 14 ⟨some 12, .assign (.tmp 68), 3, _, _, _⟩ hH ?_
     refine wpAnyH_ready (rs := [15]) (by kernel_rfl) (by simp) ?_
     refine AllReadyH.cons (o := ⟨none, .store 26 (.tmp 13) (.tmp 69), 0, _, _, _⟩) rfl (fun K hK => ?_) AllReadyH.nil
     ((rw [if_pos (by rfl)]); (with_reducible refine pst 26 (.tmp 13) (.tmp 69) ?_ gx0 0 #[.int .i64 k0.kind, .int .i64 k0.len, .int .u64 k0.h, .int .u64 k0.l, .string ⟨k0.path.toArray⟩] ?_ ?_ ?_ ?_ ?_ ?_); rfl; rfl; rfl; (exact Row.thereAt Rx0 0 _ (by simp)); (exact infoKe); (simp [Value.oneCell']); (rintro wz hwz); (have hHq := hH); (obtain ⟨c1, c2, c3, v0⟩ := hHq); (replace c1 := pcf hwz c1); (replace c2 := pcf hwz c2); (replace c3 := pcf hwz c3); (replace v0 := pcf hwz v0); (replace Rc := prf hwz Rc); (replace Rr := prf hwz Rr); (replace Rm := prf hwz Rm); (replace Rv := prf hwz Rv); (replace Rq := prf hwz Rq); (replace hb0 := pbl hwz hb0); (replace Rx0 := psw hwz Rx0); clear hwz)
     refine hK.out _ _ ?hSr1_16_15 fun _ => ?_
     case hSr1_16_15 => (exact ⟨c1, c2, c3, v0⟩)
     clear hK K hH; rename_i hH
     rename World => wq
     (try simp only [Act.put, nz1, nz2, nz3])
     refine tk 16 ⟨some 14, .assign (.tmp 70), 27, _, _, _⟩ hH ?_
     refine wpAnyH_done (by kernel_rfl) ?_ _
     (go_wp2_with fail; go_meet; exact ⟨gx0, rfl, rfl, rfl, mx0, Rx0, Rc, Rr, Rm, Rv, Rq, hb0⟩)
    refine AllReadyH.cons (o := ⟨some 13, .alloc 26, 0, _, _, _⟩) rfl (fun K hK => ?_) AllReadyH.nil
    ·(go_simp; (have mx0 := hb0.size); (have nx0_c := Rc.lt); (have nx0_r := Rr.lt); (have nx0_m := Rm.lt); (have nx0_v := Rv.lt); (have nx0_q := Rq.lt); (have Rx0 := Row.new wq #[.int .i64 0, .int .i64 0, .int .u64 0, .int .u64 0, .string ⟨#[]⟩] 26); (have hb : Below wq.heap.size wq (World.alloc wq (.cells #[.int .i64 0, .int .i64 0, .int .u64 0, .int .u64 0, .string ⟨#[]⟩] 26)) := (Below.refl _ _).alloc (Nat.le_refl _) _); (replace Rc := Rc.later hb); (replace Rr := Rr.later hb); (replace Rm := Rm.later hb); (replace Rv := Rv.later hb); (replace Rq := Rq.later hb); (replace hb0 := below_step hb0 hb); (have hSn := kc hb (kc hb (kc hb (cl hb))) hH); clear hb; generalize World.alloc wq (.cells #[.int .i64 0, .int .i64 0, .int .u64 0, .int .u64 0, .string ⟨#[]⟩] 26) = wz at *; generalize wq.heap.size = gx0 at *)
     refine hK.out _ _ ?hSr1_18_13 fun _ => ?_
     case hSr1_18_13 => (exact hSn)
     clear hK K hH; rename_i hH
     rename World => wq
     (try simp only [Act.put, nz1, nz2, nz3])
     refine wpAnyH_ready (rs := [8]) (by kernel_rfl) (by simp) ?_
     refine AllReadyH.cons (o := ⟨some 67, .call { callee := .value (.func 9), args := #[.tmp 62, .tmp 66], argTypes := #[23, 9] }, 28, _, _, _⟩) rfl (fun K hK => ?_) AllReadyH.nil
     (go_simp; (refine (HP0 _ (below_step hbW hb0)).mono ?_); (rintro e wz ⟨rfl, hb⟩); (replace Rc := Rc.later hb); (replace Rr := Rr.later hb); (replace Rm := Rm.later hb); (replace Rv := Rv.later hb); (replace Rq := Rq.later hb); (try replace Rx0 := Rx0.later hb); (replace hb0 := below_step hb0 hb); go_wp2_with fail)
     refine hK.out _ _ ?hSr1_19_8 fun _ => ?_
     case hSr1_19_8 => (exact kc hb (kc hb (kc hb (cl hb))) hH)
     clear hK K hH; rename_i hH
     rename World => wq
     (try simp only [Act.put, nz1, nz2, nz3])
     refine tk 9 ⟨some 58, .move (.tmp 67), 28, _, _, _⟩ hH ?_
     refine tk 10 ⟨some 68, .extract (.tmp 58) 0, 3, _, _, _⟩ hH ?_
     refine tk 11 ⟨some 69, .extract (.tmp 58) 1, 26, _, _, _⟩ hH ?_
     refine tk 12 ⟨some 70, .extract (.tmp 58) 2, 27, _, _, _⟩ hH ?_
     refine tk 14 ⟨some 12, .assign (.tmp 68), 3, _, _, _⟩ hH ?_
     refine wpAnyH_ready (rs := [15]) (by kernel_rfl) (by simp) ?_
     refine AllReadyH.cons (o := ⟨none, .store 26 (.tmp 13) (.tmp 69), 0, _, _, _⟩) rfl (fun K hK => ?_) AllReadyH.nil
     ((rw [if_pos (by rfl)]); (with_reducible refine pst 26 (.tmp 13) (.tmp 69) ?_ gx0 0 #[.int .i64 k0.kind, .int .i64 k0.len, .int .u64 k0.h, .int .u64 k0.l, .string ⟨k0.path.toArray⟩] ?_ ?_ ?_ ?_ ?_ ?_); rfl; rfl; rfl; (exact Row.thereAt Rx0 0 _ (by simp)); (exact infoKe); (simp [Value.oneCell']); (rintro wz hwz); (have hHq := hH); (obtain ⟨c1, c2, c3, v0⟩ := hHq); (replace c1 := pcf hwz c1); (replace c2 := pcf hwz c2); (replace c3 := pcf hwz c3); (replace v0 := pcf hwz v0); (replace Rc := prf hwz Rc); (replace Rr := prf hwz Rr); (replace Rm := prf hwz Rm); (replace Rv := prf hwz Rv); (replace Rq := prf hwz Rq); (replace hb0 := pbl hwz hb0); (replace Rx0 := psw hwz Rx0); clear hwz)
     refine hK.out _ _ ?hSr1_25_15 fun _ => ?_
     case hSr1_25_15 => (exact ⟨c1, c2, c3, v0⟩)
     clear hK K hH; rename_i hH
     rename World => wq
     (try simp only [Act.put, nz1, nz2, nz3])
     refine tk 16 ⟨some 14, .assign (.tmp 70), 27, _, _, _⟩ hH ?_
     refine wpAnyH_done (by kernel_rfl) ?_ _
     (go_wp2_with fail; go_meet; exact ⟨gx0, rfl, rfl, rfl, mx0, Rx0, Rc, Rr, Rm, Rv, Rq, hb0⟩)
   case rest =>
    clear c0 c1 c2 c3 c4 c5 c6 r0 r1 r2 r3 r4 r5 r6 r7 r8 r9 r10 r11 m0 v0 v1 q0 q1 q2 q3 q4 q5 q6 q7 q8 q9 q10 q11 Rc Rr Rm Rv Rq hb0
    obtain ⟨gx0, rfl, rfl, rfl, mx0, Rx0, Rc, Rr, Rm, Rv, Rq, hb0⟩ := hcut
    rename World => w4
    have lc := Rc.lt
    have lr := Rr.lt
    have lm := Rm.lt
    have lv := Rv.lt
    have lq := Rq.lt
    have lx0 := Rx0.lt
    (try clear c0 c1 c2 c3 c4 c5 c6); obtain ⟨c0, c1, c2, c3, c4, c5, c6⟩ := row7 Rc
    (try clear r0 r1 r2 r3 r4 r5 r6 r7 r8 r9 r10 r11); obtain ⟨r0, r1, r2, r3, r4, r5, r6, r7, r8, r9, r10, r11⟩ := row12 Rr
    replace m0 := (Rm.cell 0).trans (show _ = some (Value.string ⟨t.toArray⟩) from rfl)
    (try clear v0 v1); obtain ⟨v0, v1⟩ := row2 Rv
    (try clear q0 q1 q2 q3 q4 q5 q6 q7 q8 q9 q10 q11); obtain ⟨q0, q1, q2, q3, q4, q5, q6, q7, q8, q9, q10, q11⟩ := row12 Rq
    (try clear x00 x01 x02 x03 x04); obtain ⟨x00, x01, x02, x03, x04⟩ := row5 Rx0
    replace hb0 := below_step hbW hb0
    obtain ⟨rf0, rf1, rf2, rf3, rf4, rf5, rf6, rf7, rf8, rf9, rf10, rf11⟩ := fz12 Rr
    go_wp2
    obtain ⟨w5, hwk, hwn⟩ := pnm w4 (w.heap.size + 1) 0 [.int .i64 0, .int .i64 0, .int .i64 0, .int .i64 0, .int .u64 0, .int .u64 0, .string ⟨#[]⟩, .int .i64 0, .int .i64 0, .int .u64 0, .int .u64 0, .string ⟨#[]⟩]
    simp only [World.setCells] at hwk
    rw [← hwk]; clear hwk
    replace Rr : Row w5 (w.heap.size + 1) #[.int .i64 0, .int .i64 0, .int .i64 0, .int .i64 0, .int .u64 0, .int .u64 0, .string ⟨#[]⟩, .int .i64 0, .int .i64 0, .int .u64 0, .int .u64 0, .string ⟨#[]⟩] 40 := psm hwn Rr (by simp [setL])
    replace Rc := prf hwn Rc
    replace Rm := prf hwn Rm
    replace Rv := prf hwn Rv
    replace Rq := prf hwn Rq
    replace Rx0 := prf hwn Rx0
    replace hb0 := pbl hwn hb0
    clear hwn c0 c1 c2 c3 c4 c5 c6 r0 r1 r2 r3 r4 r5 r6 r7 r8 r9 r10 r11 m0 v0 v1 q0 q1 q2 q3 q4 q5 q6 q7 q8 q9 q10 q11 x00 x01 x02 x03 x04
    (try clear rf0 rf1 rf2 rf3 rf4 rf5 rf6 rf7 rf8 rf9 rf10 rf11)
    (try clear c0 c1 c2 c3 c4 c5 c6); obtain ⟨c0, c1, c2, c3, c4, c5, c6⟩ := row7 Rc
    (try clear r0 r1 r2 r3 r4 r5 r6 r7 r8 r9 r10 r11); obtain ⟨r0, r1, r2, r3, r4, r5, r6, r7, r8, r9, r10, r11⟩ := row12 Rr
    replace m0 := (Rm.cell 0).trans (show _ = some (Value.string ⟨t.toArray⟩) from rfl)
    (try clear v0 v1); obtain ⟨v0, v1⟩ := row2 Rv
    (try clear q0 q1 q2 q3 q4 q5 q6 q7 q8 q9 q10 q11); obtain ⟨q0, q1, q2, q3, q4, q5, q6, q7, q8, q9, q10, q11⟩ := row12 Rq
    (try clear x00 x01 x02 x03 x04); obtain ⟨x00, x01, x02, x03, x04⟩ := row5 Rx0
    refine bodyPost_ret (v := .tuple #[.agg #[.int .i64 0, .int .i64 0, .int .i64 0, .int .i64 0, .int .u64 0, .int .u64 0, .string ⟨#[]⟩, .int .i64 0, .int .i64 0, .int .u64 0, .int .u64 0, .string ⟨#[]⟩], .int .i64 er]) (by simp [results, Tryz.results18, go_sem, r0, r1, r2, r3, r4, r5, r6, r7, r8, r9, r10, r11]) rfl ⟨rfl, hb0⟩
theorem rps_2oe (s : Sp) (t a b : List UInt8) (m : Nat) (hl : t.length ≤ 2000000) (ht : t = a ++ 62 :: b) (hm : m = a.length) (hb : (62 : UInt8) ∉ b) (l0 : Int) (k0 : Ke) (l1 : Int) (k1 : Ke) (er : Int) (he : ¬ er = 0) (w : World)
  (HT : ((cntT t t.length : Nat) : Int) = 1)
  (HR : ∀ w', Below w.heap.size w w' → Calls Tryz.prog 50 #[.agg #[.int .i64 2, .int .i64 s.d0.kind, .int .i64 s.d0.side, .int .i64 s.d0.step, .int .i64 s.d1.kind, .int .i64 s.d1.side, .int .i64 s.d1.step]] w' fun e w'' => e = .returned (.bool true) ∧ Below w'.heap.size w' w'')
  (HP0 : ∀ w', Below w.heap.size w w' → Calls Tryz.prog 9 #[.agg #[.int .i64 s.d0.kind, .int .i64 s.d0.side, .int .i64 s.d0.step], .string ⟨a.toArray⟩] w' fun e w'' => e = .returned (.tuple #[.int .i64 l0, kv k0, .int .i64 0]) ∧ Below w'.heap.size w' w'')
  (HP1 : ∀ w', Below w.heap.size w w' → Calls Tryz.prog 9 #[.agg #[.int .i64 s.d1.kind, .int .i64 s.d1.side, .int .i64 s.d1.step], .string ⟨b.toArray⟩] w' fun e w'' => e = .returned (.tuple #[.int .i64 l1, kv k1, .int .i64 er]) ∧ Below w'.heap.size w' w'')
  : Calls Tryz.prog 18 #[.agg #[.int .i64 2, .int .i64 s.d0.kind, .int .i64 s.d0.side, .int .i64 s.d0.step, .int .i64 s.d1.kind, .int .i64 s.d1.side, .int .i64 s.d1.step], .string ⟨t.toArray⟩] w fun e w' => e = .returned (.tuple #[.agg #[.int .i64 0, .int .i64 0, .int .i64 0, .int .i64 0, .int .u64 0, .int .u64 0, .string ⟨#[]⟩, .int .i64 0, .int .i64 0, .int .u64 0, .int .u64 0, .string ⟨#[]⟩], .int .i64 er]) ∧ Below w.heap.size w w' := by
 have heb : (er == 0) = false := by simpa using he
 have hen : (er != 0) = true := by simpa using he
 have hcz : ((1 : Int) != IntKind.i64.wrap 1) = false := by decide
 unfold kv at *
 have hlen : m + 1 + b.length = t.length := by rw [ht, hm, List.length_append, List.length_cons]; omega
 have HA : lastT t t.length = m := by
  have h := lastT_at (a := a) hb b.length (Nat.le_refl _)
  rw [← ht, ← hm, hlen] at h
  exact h
 have hx1 : (⟨t.toArray⟩ : ByteArray).extract (m + 1) t.length = ⟨b.toArray⟩ := by
  rw [ext_l, List.take_length, ht, hm, ← List.drop_drop, List.drop_left]; rfl
 have hx0 : (⟨t.toArray⟩ : ByteArray).extract 0 m = ⟨a.toArray⟩ := by
  rw [ext_l, ht, hm, List.take_left]; rfl
 have hml : m < t.length := by omega
 clear ht hm hb
 obtain ⟨Rc, Rr, hb0⟩ := two_rows w #[.int .i64 2, .int .i64 s.d0.kind, .int .i64 s.d0.side, .int .i64 s.d0.step, .int .i64 s.d1.kind, .int .i64 s.d1.side, .int .i64 s.d1.step] #[.int .i64 0, .int .i64 0, .int .i64 0, .int .i64 0, .int .u64 0, .int .u64 0, .string ⟨#[]⟩, .int .i64 0, .int .i64 0, .int .u64 0, .int .u64 0, .string ⟨#[]⟩] 36 40
 (try clear c0 c1 c2 c3 c4 c5 c6); obtain ⟨c0, c1, c2, c3, c4, c5, c6⟩ := row7 Rc
 (try clear r0 r1 r2 r3 r4 r5 r6 r7 r8 r9 r10 r11); obtain ⟨r0, r1, r2, r3, r4, r5, r6, r7, r8, r9, r10, r11⟩ := row12 Rr
 go_enter Tryz.func18, Tryz.ntmps18
 go_wp2_with fail
 refine (HR _ hb0).mono ?_
 rintro e w1 ⟨rfl, hb⟩
 replace Rc := Rc.later hb
 replace Rr := Rr.later hb
 replace hb0 := below_step hb0 hb
 clear hb
 have lc := Rc.lt
 have lr := Rr.lt
 (try clear c0 c1 c2 c3 c4 c5 c6); obtain ⟨c0, c1, c2, c3, c4, c5, c6⟩ := row7 Rc
 (try clear r0 r1 r2 r3 r4 r5 r6 r7 r8 r9 r10 r11); obtain ⟨r0, r1, r2, r3, r4, r5, r6, r7, r8, r9, r10, r11⟩ := row12 Rr
 have hsz := bsz t
 go_wp2_with fail
 go_loopw [6, 7, 8] (fun x y z wr => ∃ i : Nat, i ≤ t.length ∧ x = .int .i64 (cntT t i) ∧ y = .int .i64 (lastT t i) ∧ z = .int .i64 i ∧ wr = w1) (fun _ _ z _ => t.length - (intOf z).toNat)
 case atStart => exact ⟨0, by omega, rfl, rfl, rfl, rfl⟩
 case round =>
  obtain ⟨i, hi, hx, hy, rfl, rfl⟩ := hrel
  by_cases hlt : i < t.length
  ·obtain ⟨c, hlj⟩ : ∃ c, t[i]? = some c := ⟨t[i], List.getElem?_eq_getElem hlt⟩
   have hsp : i < (⟨t.toArray⟩ : ByteArray).size := by rw [hsz]; exact hlt
   have hch : (⟨t.toArray⟩ : ByteArray)[i]'hsp = c := by
    have := (List.getElem?_eq_some_iff.1 hlj).2
    exact this
   have hcl := cntT_le t i
   subst hx hy
   have hltn : (i : Int) < t.length := by omega
   by_cases h62 : c = 62
   ·subst h62
    have ec := cntT_yes hlj
    have el := lastT_yes hlj
    clear hlj
    go_wp2_with fail
    refine ⟨⟨i + 1, by omega, ?_, ?_, by congr 1 <;> omega, by first | rfl | trivial⟩, by simp [intOf] <;> omega⟩
    ·rw [ec]; congr 1 <;> omega
    ·rw [el]
   ·have n62 : ¬ (c.toNat : Int) = 62 := fun e => h62 (UInt8.toNat.inj (by rw [show (62 : UInt8).toNat = 62 from rfl]; omega))
    have e62 : ((c.toNat : Int) == 62) = false := by simpa using n62
    have ec := cntT_no hlj h62
    have el := lastT_no hlj h62
    clear hlj
    go_wp2_with fail
    refine ⟨⟨i + 1, by omega, ?_, ?_, by congr 1 <;> omega, by first | rfl | trivial⟩, by simp [intOf] <;> omega⟩
    ·rw [ec]
    ·rw [el]
  ·have hit : i = t.length := by omega
   have hltn : ¬ (i : Int) < t.length := by omega
   rw [hit] at hx
   rw [HT] at hx
   subst hx
   rw [hit] at hy
   rw [HA] at hy
   subst hy
   go_wp2_with fail
   have nmc := Rc.lt
   have nmr := Rr.lt
   replace Rc := Rc.alloc (.cells #[.string ⟨t.toArray⟩] 9)
   replace Rr := Rr.alloc (.cells #[.string ⟨t.toArray⟩] 9)
   have Rm := Row.new wr #[Value.string ⟨t.toArray⟩] 9
   have mm := hb0.size
   replace hb0 := hb0.alloc hb0.size (.cells #[.string ⟨t.toArray⟩] 9)
   (try clear c0 c1 c2 c3 c4 c5 c6); obtain ⟨c0, c1, c2, c3, c4, c5, c6⟩ := row7 Rc
   (try clear r0 r1 r2 r3 r4 r5 r6 r7 r8 r9 r10 r11); obtain ⟨r0, r1, r2, r3, r4, r5, r6, r7, r8, r9, r10, r11⟩ := row12 Rr
   replace m0 := (Rm.cell 0).trans (show _ = some (Value.string ⟨t.toArray⟩) from rfl)
   have hwj : IntKind.i64.wrap ((m : Int) + 1) = (m : Int) + 1 := by rw [IntKind.wrap_i64]; omega
   have hj0 : (0 : Int) ≤ (m : Int) + 1 := by omega
   have hj1 : (m : Int) + 1 ≤ t.length := by omega
   have hjt : ((m : Int) + 1).toNat = m + 1 := by omega
   have hml2 : m ≤ t.length := by omega
   generalize (World.alloc wr (.cells #[.string ⟨t.toArray⟩] 9)) = w2 at *
   go_region
   clear hwj hj0 hj1 hjt
   go_wp2_with fail
   have nvc := Rc.lt
   have nvr := Rr.lt
   have nvm := Rm.lt
   replace Rc := Rc.alloc (.cells #[.string ⟨a.toArray⟩, .string ⟨b.toArray⟩] 9)
   replace Rr := Rr.alloc (.cells #[.string ⟨a.toArray⟩, .string ⟨b.toArray⟩] 9)
   replace Rm := Rm.alloc (.cells #[.string ⟨a.toArray⟩, .string ⟨b.toArray⟩] 9)
   have Rv := Row.new w2 #[Value.string ⟨a.toArray⟩, Value.string ⟨b.toArray⟩] 9
   have mv := hb0.size
   replace hb0 := hb0.alloc hb0.size (.cells #[.string ⟨a.toArray⟩, .string ⟨b.toArray⟩] 9)
   (try clear c0 c1 c2 c3 c4 c5 c6); obtain ⟨c0, c1, c2, c3, c4, c5, c6⟩ := row7 Rc
   (try clear r0 r1 r2 r3 r4 r5 r6 r7 r8 r9 r10 r11); obtain ⟨r0, r1, r2, r3, r4, r5, r6, r7, r8, r9, r10, r11⟩ := row12 Rr
   replace m0 := (Rm.cell 0).trans (show _ = some (Value.string ⟨t.toArray⟩) from rfl)
   (try clear v0 v1); obtain ⟨v0, v1⟩ := row2 Rv
   replace Rc := Rc.alloc (.cells #[.int .i64 0, .int .i64 0, .int .i64 0, .int .i64 0, .int .u64 0, .int .u64 0, .string ⟨#[]⟩, .int .i64 0, .int .i64 0, .int .u64 0, .int .u64 0, .string ⟨#[]⟩] 40)
   replace Rr := Rr.alloc (.cells #[.int .i64 0, .int .i64 0, .int .i64 0, .int .i64 0, .int .u64 0, .int .u64 0, .string ⟨#[]⟩, .int .i64 0, .int .i64 0, .int .u64 0, .int .u64 0, .string ⟨#[]⟩] 40)
   replace Rm := Rm.alloc (.cells #[.int .i64 0, .int .i64 0, .int .i64 0, .int .i64 0, .int .u64 0, .int .u64 0, .string ⟨#[]⟩, .int .i64 0, .int .i64 0, .int .u64 0, .int .u64 0, .string ⟨#[]⟩] 40)
   replace Rv := Rv.alloc (.cells #[.int .i64 0, .int .i64 0, .int .i64 0, .int .i64 0, .int .u64 0, .int .u64 0, .string ⟨#[]⟩, .int .i64 0, .int .i64 0, .int .u64 0, .int .u64 0, .string ⟨#[]⟩] 40)
   have Rq := Row.new (World.alloc w2 (.cells #[.string ⟨a.toArray⟩, .string ⟨b.toArray⟩] 9)) #[Value.int .i64 0, Value.int .i64 0, Value.int .i64 0, Value.int .i64 0, Value.int .u64 0, Value.int .u64 0, Value.string ⟨#[]⟩, Value.int .i64 0, Value.int .i64 0, Value.int .u64 0, Value.int .u64 0, Value.string ⟨#[]⟩] 40
   simp only [World.size_alloc] at Rq
   have mq := hb0.size
   replace hb0 := hb0.alloc hb0.size (.cells #[.int .i64 0, .int .i64 0, .int .i64 0, .int .i64 0, .int .u64 0, .int .u64 0, .string ⟨#[]⟩, .int .i64 0, .int .i64 0, .int .u64 0, .int .u64 0, .string ⟨#[]⟩] 40)
   (try clear c0 c1 c2 c3 c4 c5 c6); obtain ⟨c0, c1, c2, c3, c4, c5, c6⟩ := row7 Rc
   (try clear r0 r1 r2 r3 r4 r5 r6 r7 r8 r9 r10 r11); obtain ⟨r0, r1, r2, r3, r4, r5, r6, r7, r8, r9, r10, r11⟩ := row12 Rr
   replace m0 := (Rm.cell 0).trans (show _ = some (Value.string ⟨t.toArray⟩) from rfl)
   (try clear v0 v1); obtain ⟨v0, v1⟩ := row2 Rv
   (try clear q0 q1 q2 q3 q4 q5 q6 q7 q8 q9 q10 q11); obtain ⟨q0, q1, q2, q3, q4, q5, q6, q7, q8, q9, q10, q11⟩ := row12 Rq
   clear c0 c1 c2 c3 c4 c5 c6 r0 r1 r2 r3 r4 r5 r6 r7 r8 r9 r10 r11 m0 v0 v1 q0 q1 q2 q3 q4 q5 q6 q7 q8 q9 q10 q11
   replace Rc := Rc.drew
   replace Rr := Rr.drew
   replace Rm := Rm.drew
   replace Rv := Rv.drew
   replace Rq := Rq.drew
   replace hb0 := hb0.drew
   generalize World.drew (World.alloc (World.alloc w2 (.cells #[.string ⟨a.toArray⟩, .string ⟨b.toArray⟩] 9)) (.cells #[.int .i64 0, .int .i64 0, .int .i64 0, .int .i64 0, .int .u64 0, .int .u64 0, .string ⟨#[]⟩, .int .i64 0, .int .i64 0, .int .u64 0, .int .u64 0, .string ⟨#[]⟩] 40)) = w3 at *
   have lc := Rc.lt
   have lr := Rr.lt
   have lm := Rm.lt
   have lv := Rv.lt
   have lq := Rq.lt
   (try clear c0 c1 c2 c3 c4 c5 c6); obtain ⟨c0, c1, c2, c3, c4, c5, c6⟩ := row7 Rc
   (try clear r0 r1 r2 r3 r4 r5 r6 r7 r8 r9 r10 r11); obtain ⟨r0, r1, r2, r3, r4, r5, r6, r7, r8, r9, r10, r11⟩ := row12 Rr
   replace m0 := (Rm.cell 0).trans (show _ = some (Value.string ⟨t.toArray⟩) from rfl)
   (try clear v0 v1); obtain ⟨v0, v1⟩ := row2 Rv
   (try clear q0 q1 q2 q3 q4 q5 q6 q7 q8 q9 q10 q11); obtain ⟨q0, q1, q2, q3, q4, q5, q6, q7, q8, q9, q10, q11⟩ := row12 Rq
   refine wp_loop_rounds 3 ?_
   rw [rounds_succ]
   go_wp2_with fail
   have hbW := hb0
   replace hb0 := Below.refl (Array.size (World.heap w3)) w3
   have lwc := Rc.lt
   have lwr := Rr.lt
   have lwm := Rm.lt
   have lwv := Rv.lt
   have lwq := Rq.lt
   go_cut [13, 12, 14] (fun s13 s12 s14 wx => ∃ gx0 : Nat, s13 = .pointer (some ⟨gx0, 0, none⟩) ∧ s12 = .int .i64 l0 ∧ s14 = .int .i64 0 ∧ w3.heap.size ≤ gx0 ∧ Row wx gx0 #[.int .i64 k0.kind, .int .i64 k0.len, .int .u64 k0.h, .int .u64 k0.l, .string ⟨k0.path.toArray⟩] 26 ∧ Row wx w.heap.size #[.int .i64 2, .int .i64 s.d0.kind, .int .i64 s.d0.side, .int .i64 s.d0.step, .int .i64 s.d1.kind, .int .i64 s.d1.side, .int .i64 s.d1.step] 36 ∧ Row wx (w.heap.size + 1) #[.int .i64 0, .int .i64 0, .int .i64 0, .int .i64 0, .int .u64 0, .int .u64 0, .string ⟨#[]⟩, .int .i64 0, .int .i64 0, .int .u64 0, .int .u64 0, .string ⟨#[]⟩] 40 ∧ Row wx wr.heap.size #[.string ⟨t.toArray⟩] 9 ∧ Row wx w2.heap.size #[.string ⟨a.toArray⟩, .string ⟨b.toArray⟩] 9 ∧ Row wx (w2.heap.size + 1) #[.int .i64 0, .int .i64 0, .int .i64 0, .int .i64 0, .int .u64 0, .int .u64 0, .string ⟨#[]⟩, .int .i64 0, .int .i64 0, .int .u64 0, .int .u64 0, .string ⟨#[]⟩] 40 ∧ Below w3.heap.size w3 wx)
   case first =>
    refine wp_region_held_drew (S := (fun w' => w'.cell? ⟨w.heap.size, 1, none⟩ = some (Value.int .i64 s.d0.kind) ∧ w'.cell? ⟨w.heap.size, 2, none⟩ = some (Value.int .i64 s.d0.side) ∧ w'.cell? ⟨w.heap.size, 3, none⟩ = some (Value.int .i64 s.d0.step) ∧ w'.cell? ⟨w2.heap.size, 0, none⟩ = some (Value.string ⟨a.toArray⟩))) (by kernel_rfl) ?hSr2_ (fun hH => ?_)
    case hSr2_ => (exact ⟨c1, c2, c3, v0⟩)
    (clear c0 c1 c2 c3 c4 c5 c6 r0 r1 r2 r3 r4 r5 r6 r7 r8 r9 r10 r11 m0 v0 v1 q0 q1 q2 q3 q4 q5 q6 q7 q8 q9 q10 q11; (replace Rc := Rc.drew); (replace Rr := Rr.drew); (replace Rm := Rm.drew); (replace Rv := Rv.drew); (replace Rq := Rq.drew); (replace hb0 := hb0.drew); (generalize World.drew w3 = wq at *))
    refine tk 0 ⟨some 59, .move (.tmp 11), 3, _, _, _⟩ hH ?_
    refine tk 1 ⟨some 60, .fieldAddr 36 (.tmp 2) 1, 0, _, _, _⟩ hH ?_
    refine tk 2 ⟨some 61, .indexAddr 34 (.tmp 60) (.tmp 59), 0, _, _, _⟩ hH ?_
    refine tk 3 ⟨some 62, .load 23 (.tmp 61), 23, _, _, _⟩ hH ?_
    refine tk 4 ⟨some 63, .move (.tmp 9), 77, _, _, _⟩ hH ?_
    refine tk 5 ⟨some 64, .move (.tmp 11), 3, _, _, _⟩ hH ?_
    refine tk 6 ⟨some 65, .indexAddr 77 (.tmp 63) (.tmp 64), 0, _, _, _⟩ hH ?_
    refine tk 7 ⟨some 66, .load 9 (.tmp 65), 9, _, _, _⟩ hH ?_
    refine wpAnyH_ready (rs := [8, 13]) (by kernel_rfl) (by simp) ?_
    refine AllReadyH.cons (o := ⟨some 67, .call { callee := .value (.func 9), args := #[.tmp 62, .tmp 66], argTypes := #[23, 9] }, 28, _, _, _⟩) rfl (fun K hK => ?_) ?_
    ·(go_simp; (refine (HP0 _ (below_step hbW hb0)).mono ?_); (rintro e wz ⟨rfl, hb⟩); (replace Rc := Rc.later hb); (replace Rr := Rr.later hb); (replace Rm := Rm.later hb); (replace Rv := Rv.later hb); (replace Rq := Rq.later hb); (try replace Rx0 := Rx0.later hb); (replace hb0 := below_step hb0 hb); go_wp2_with fail)
     refine hK.out _ _ ?hSr2_9_8 fun _ => ?_
     case hSr2_9_8 => (exact kc hb (kc hb (kc hb (cl hb))) hH)
     clear hK K hH; rename_i hH
     rename World => wq
     (try simp only [Act.put, nz1, nz2, nz3])
     refine tk 9 ⟨some 58, .move (.tmp 67), 28, _, _, _⟩ hH ?_
     refine tk 10 ⟨some 68, .extract (.tmp 58) 0, 3, _, _, _⟩ hH ?_
     refine tk 11 ⟨some 69, .extract (.tmp 58) 1, 26, _, _, _⟩ hH ?_
     refine tk 12 ⟨some 70, .extract (.tmp 58) 2, 27, _, _, _⟩ hH ?_
     refine wpAnyH_ready (rs := [13]) (by kernel_rfl) (by simp) ?_
     refine AllReadyH.cons (o := ⟨some 13, .alloc 26, 0, _, _, _⟩) rfl (fun K hK => ?_) AllReadyH.nil
     (go_simp; (have mx0 := hb0.size); (have nx0_c := Rc.lt); (have nx0_r := Rr.lt); (have nx0_m := Rm.lt); (have nx0_v := Rv.lt); (have nx0_q := Rq.lt); (have Rx0 := Row.new wq #[.int .i64 0, .int .i64 0, .int .u64 0, .int .u64 0, .string ⟨#[]⟩] 26); (have hb : Below wq.heap.size wq (World.alloc wq (.cells #[.int .i64 0, .int .i64 0, .int .u64 0, .int .u64 0, .string ⟨#[]⟩] 26)) := (Below.refl _ _).alloc (Nat.le_refl _) _); (replace Rc := Rc.later hb); (replace Rr := Rr.later hb); (replace Rm := Rm.later hb); (replace Rv := Rv.later hb); (replace Rq := Rq.later hb); (replace hb0 := below_step hb0 hb); (have hSn := kc hb (kc hb (kc hb (cl hb))) hH); clear hb; generalize World.alloc wq (.cells #[.int .i64 0, .int .i64 0, .int .u64 0, .int .u64 0, .string ⟨#[]⟩] 26) = wz at *; generalize wq.heap.size = gx0 at *)
     refine hK.out _ _ ?hSr2_14_13 fun _ => ?_
     case hSr2_14_13 => (exact hSn)
     clear hK K hH; rename_i hH
     rename World => wq
     (try simp only [Act.put, nz1, nz2, nz3])
     refine tk 14 ⟨some 12, .assign (.tmp 68), 3, _, _, _⟩ hH ?_
     refine wpAnyH_ready (rs := [15]) (by kernel_rfl) (by simp) ?_
     refine AllReadyH.cons (o := ⟨none, .store 26 (.tmp 13) (.tmp 69), 0, _, _, _⟩) rfl (fun K hK => ?_) AllReadyH.nil
     ((rw [if_pos (by rfl)]); (with_reducible refine pst 26 (.tmp 13) (.tmp 69) ?_ gx0 0 #[.int .i64 k0.kind, .int .i64 k0.len, .int .u64 k0.h, .int .u64 k0.l, .string ⟨k0.path.toArray⟩] ?_ ?_ ?_ ?_ ?_ ?_); rfl; rfl; rfl; (exact Row.thereAt Rx0 0 _ (by simp)); (exact infoKe); (simp [Value.oneCell']); (rintro wz hwz); (have hHq := hH); (obtain ⟨c1, c2, c3, v0⟩ := hHq); (replace c1 := pcf hwz c1); (replace c2 := pcf hwz c2); (replace c3 := pcf hwz c3); (replace v0 := pcf hwz v0); (replace Rc := prf hwz Rc); (replace Rr := prf hwz Rr); (replace Rm := prf hwz Rm); (replace Rv := prf hwz Rv); (replace Rq := prf hwz Rq); (replace hb0 := pbl hwz hb0); (replace Rx0 := psw hwz Rx0); clear hwz)
     refine hK.out _ _ ?hSr2_16_15 fun _ => ?_
     case hSr2_16_15 => (exact ⟨c1, c2, c3, v0⟩)
     clear hK K hH; rename_i hH
     rename World => wq
     (try simp only [Act.put, nz1, nz2, nz3])
     refine tk 16 ⟨some 14, .assign (.tmp 70), 27, _, _, _⟩ hH ?_
     refine wpAnyH_done (by kernel_rfl) ?_ _
     (go_wp2_with fail; go_meet; exact ⟨gx0, rfl, rfl, rfl, mx0, Rx0, Rc, Rr, Rm, Rv, Rq, hb0⟩)
    refine AllReadyH.cons (o := ⟨some 13, .alloc 26, 0, _, _, _⟩) rfl (fun K hK => ?_) AllReadyH.nil
    ·(go_simp; (have mx0 := hb0.size); (have nx0_c := Rc.lt); (have nx0_r := Rr.lt); (have nx0_m := Rm.lt); (have nx0_v := Rv.lt); (have nx0_q := Rq.lt); (have Rx0 := Row.new wq #[.int .i64 0, .int .i64 0, .int .u64 0, .int .u64 0, .string ⟨#[]⟩] 26); (have hb : Below wq.heap.size wq (World.alloc wq (.cells #[.int .i64 0, .int .i64 0, .int .u64 0, .int .u64 0, .string ⟨#[]⟩] 26)) := (Below.refl _ _).alloc (Nat.le_refl _) _); (replace Rc := Rc.later hb); (replace Rr := Rr.later hb); (replace Rm := Rm.later hb); (replace Rv := Rv.later hb); (replace Rq := Rq.later hb); (replace hb0 := below_step hb0 hb); (have hSn := kc hb (kc hb (kc hb (cl hb))) hH); clear hb; generalize World.alloc wq (.cells #[.int .i64 0, .int .i64 0, .int .u64 0, .int .u64 0, .string ⟨#[]⟩] 26) = wz at *; generalize wq.heap.size = gx0 at *)
     refine hK.out _ _ ?hSr2_18_13 fun _ => ?_
     case hSr2_18_13 => (exact hSn)
     clear hK K hH; rename_i hH
     rename World => wq
     (try simp only [Act.put, nz1, nz2, nz3])
     refine wpAnyH_ready (rs := [8]) (by kernel_rfl) (by simp) ?_
     refine AllReadyH.cons (o := ⟨some 67, .call { callee := .value (.func 9), args := #[.tmp 62, .tmp 66], argTypes := #[23, 9] }, 28, _, _, _⟩) rfl (fun K hK => ?_) AllReadyH.nil
     (go_simp; (refine (HP0 _ (below_step hbW hb0)).mono ?_); (rintro e wz ⟨rfl, hb⟩); (replace Rc := Rc.later hb); (replace Rr := Rr.later hb); (replace Rm := Rm.later hb); (replace Rv := Rv.later hb); (replace Rq := Rq.later hb); (try replace Rx0 := Rx0.later hb); (replace hb0 := below_step hb0 hb); go_wp2_with fail)
     refine hK.out _ _ ?hSr2_19_8 fun _ => ?_
     case hSr2_19_8 => (exact kc hb (kc hb (kc hb (cl hb))) hH)
     clear hK K hH; rename_i hH
     rename World => wq
     (try simp only [Act.put, nz1, nz2, nz3])
     refine tk 9 ⟨some 58, .move (.tmp 67), 28, _, _, _⟩ hH ?_
     refine tk 10 ⟨some 68, .extract (.tmp 58) 0, 3, _, _, _⟩ hH ?_
     refine tk 11 ⟨some 69, .extract (.tmp 58) 1, 26, _, _, _⟩ hH ?_
     refine tk 12 ⟨some 70, .extract (.tmp 58) 2, 27, _, _, _⟩ hH ?_
     refine tk 14 ⟨some 12, .assign (.tmp 68), 3, _, _, _⟩ hH ?_
     refine wpAnyH_ready (rs := [15]) (by kernel_rfl) (by simp) ?_
     refine AllReadyH.cons (o := ⟨none, .store 26 (.tmp 13) (.tmp 69), 0, _, _, _⟩) rfl (fun K hK => ?_) AllReadyH.nil
     ((rw [if_pos (by rfl)]); (with_reducible refine pst 26 (.tmp 13) (.tmp 69) ?_ gx0 0 #[.int .i64 k0.kind, .int .i64 k0.len, .int .u64 k0.h, .int .u64 k0.l, .string ⟨k0.path.toArray⟩] ?_ ?_ ?_ ?_ ?_ ?_); rfl; rfl; rfl; (exact Row.thereAt Rx0 0 _ (by simp)); (exact infoKe); (simp [Value.oneCell']); (rintro wz hwz); (have hHq := hH); (obtain ⟨c1, c2, c3, v0⟩ := hHq); (replace c1 := pcf hwz c1); (replace c2 := pcf hwz c2); (replace c3 := pcf hwz c3); (replace v0 := pcf hwz v0); (replace Rc := prf hwz Rc); (replace Rr := prf hwz Rr); (replace Rm := prf hwz Rm); (replace Rv := prf hwz Rv); (replace Rq := prf hwz Rq); (replace hb0 := pbl hwz hb0); (replace Rx0 := psw hwz Rx0); clear hwz)
     refine hK.out _ _ ?hSr2_25_15 fun _ => ?_
     case hSr2_25_15 => (exact ⟨c1, c2, c3, v0⟩)
     clear hK K hH; rename_i hH
     rename World => wq
     (try simp only [Act.put, nz1, nz2, nz3])
     refine tk 16 ⟨some 14, .assign (.tmp 70), 27, _, _, _⟩ hH ?_
     refine wpAnyH_done (by kernel_rfl) ?_ _
     (go_wp2_with fail; go_meet; exact ⟨gx0, rfl, rfl, rfl, mx0, Rx0, Rc, Rr, Rm, Rv, Rq, hb0⟩)
   case rest =>
    clear c0 c1 c2 c3 c4 c5 c6 r0 r1 r2 r3 r4 r5 r6 r7 r8 r9 r10 r11 m0 v0 v1 q0 q1 q2 q3 q4 q5 q6 q7 q8 q9 q10 q11 Rc Rr Rm Rv Rq hb0
    obtain ⟨gx0, rfl, rfl, rfl, mx0, Rx0, Rc, Rr, Rm, Rv, Rq, hb0⟩ := hcut
    rename World => w4
    have lc := Rc.lt
    have lr := Rr.lt
    have lm := Rm.lt
    have lv := Rv.lt
    have lq := Rq.lt
    have lx0 := Rx0.lt
    (try clear c0 c1 c2 c3 c4 c5 c6); obtain ⟨c0, c1, c2, c3, c4, c5, c6⟩ := row7 Rc
    (try clear r0 r1 r2 r3 r4 r5 r6 r7 r8 r9 r10 r11); obtain ⟨r0, r1, r2, r3, r4, r5, r6, r7, r8, r9, r10, r11⟩ := row12 Rr
    replace m0 := (Rm.cell 0).trans (show _ = some (Value.string ⟨t.toArray⟩) from rfl)
    (try clear v0 v1); obtain ⟨v0, v1⟩ := row2 Rv
    (try clear q0 q1 q2 q3 q4 q5 q6 q7 q8 q9 q10 q11); obtain ⟨q0, q1, q2, q3, q4, q5, q6, q7, q8, q9, q10, q11⟩ := row12 Rq
    (try clear x00 x01 x02 x03 x04); obtain ⟨x00, x01, x02, x03, x04⟩ := row5 Rx0
    replace hb0 := below_step hbW hb0
    obtain ⟨qf0, qf1, qf2, qf3, qf4, qf5, qf6, qf7, qf8, qf9, qf10, qf11⟩ := fz12 Rq
    go_wp2_with fail
    obtain ⟨w5, hwk, hwn⟩ := pnm w4 (w2.heap.size + 1) 0 [.int .i64 l0]
    simp only [World.setCells] at hwk
    rw [← hwk]; clear hwk
    replace Rq : Row w5 (w2.heap.size + 1) #[.int .i64 l0, .int .i64 0, .int .i64 0, .int .i64 0, .int .u64 0, .int .u64 0, .string ⟨#[]⟩, .int .i64 0, .int .i64 0, .int .u64 0, .int .u64 0, .string ⟨#[]⟩] 40 := psm hwn Rq (by simp [setL])
    replace Rc := prf hwn Rc
    replace Rr := prf hwn Rr
    replace Rm := prf hwn Rm
    replace Rv := prf hwn Rv
    replace Rx0 := prf hwn Rx0
    replace hb0 := pbl hwn hb0
    clear hwn c0 c1 c2 c3 c4 c5 c6 r0 r1 r2 r3 r4 r5 r6 r7 r8 r9 r10 r11 m0 v0 v1 q0 q1 q2 q3 q4 q5 q6 q7 q8 q9 q10 q11 x00 x01 x02 x03 x04
    (try clear qf0 qf1 qf2 qf3 qf4 qf5 qf6 qf7 qf8 qf9 qf10 qf11)
    (try clear c0 c1 c2 c3 c4 c5 c6); obtain ⟨c0, c1, c2, c3, c4, c5, c6⟩ := row7 Rc
    (try clear r0 r1 r2 r3 r4 r5 r6 r7 r8 r9 r10 r11); obtain ⟨r0, r1, r2, r3, r4, r5, r6, r7, r8, r9, r10, r11⟩ := row12 Rr
    replace m0 := (Rm.cell 0).trans (show _ = some (Value.string ⟨t.toArray⟩) from rfl)
    (try clear v0 v1); obtain ⟨v0, v1⟩ := row2 Rv
    (try clear q0 q1 q2 q3 q4 q5 q6 q7 q8 q9 q10 q11); obtain ⟨q0, q1, q2, q3, q4, q5, q6, q7, q8, q9, q10, q11⟩ := row12 Rq
    (try clear x00 x01 x02 x03 x04); obtain ⟨x00, x01, x02, x03, x04⟩ := row5 Rx0
    obtain ⟨w6, hwk, hwn⟩ := pnm w5 (w2.heap.size + 1) 2 [.int .i64 k0.kind, .int .i64 k0.len, .int .u64 k0.h, .int .u64 k0.l, .string ⟨k0.path.toArray⟩]
    simp only [World.setCells] at hwk
    rw [← hwk]; clear hwk
    replace Rq : Row w6 (w2.heap.size + 1) #[.int .i64 l0, .int .i64 0, .int .i64 k0.kind, .int .i64 k0.len, .int .u64 k0.h, .int .u64 k0.l, .string ⟨k0.path.toArray⟩, .int .i64 0, .int .i64 0, .int .u64 0, .int .u64 0, .string ⟨#[]⟩] 40 := psm hwn Rq (by simp [setL])
    replace Rc := prf hwn Rc
    replace Rr := prf hwn Rr
    replace Rm := prf hwn Rm
    replace Rv := prf hwn Rv
    replace Rx0 := prf hwn Rx0
    replace hb0 := pbl hwn hb0
    clear hwn c0 c1 c2 c3 c4 c5 c6 r0 r1 r2 r3 r4 r5 r6 r7 r8 r9 r10 r11 m0 v0 v1 q0 q1 q2 q3 q4 q5 q6 q7 q8 q9 q10 q11 x00 x01 x02 x03 x04
    (try clear qf0 qf1 qf2 qf3 qf4 qf5 qf6 qf7 qf8 qf9 qf10 qf11)
    (try clear c0 c1 c2 c3 c4 c5 c6); obtain ⟨c0, c1, c2, c3, c4, c5, c6⟩ := row7 Rc
    (try clear r0 r1 r2 r3 r4 r5 r6 r7 r8 r9 r10 r11); obtain ⟨r0, r1, r2, r3, r4, r5, r6, r7, r8, r9, r10, r11⟩ := row12 Rr
    replace m0 := (Rm.cell 0).trans (show _ = some (Value.string ⟨t.toArray⟩) from rfl)
    (try clear v0 v1); obtain ⟨v0, v1⟩ := row2 Rv
    (try clear q0 q1 q2 q3 q4 q5 q6 q7 q8 q9 q10 q11); obtain ⟨q0, q1, q2, q3, q4, q5, q6, q7, q8, q9, q10, q11⟩ := row12 Rq
    (try clear x00 x01 x02 x03 x04); obtain ⟨x00, x01, x02, x03, x04⟩ := row5 Rx0
    rw [rounds_succ]
    go_wp2_with fail
    generalize w6 = w7 at *
    have hbW := hb0
    replace hb0 := Below.refl (Array.size (World.heap w7)) w7
    have lwc := Rc.lt
    have lwr := Rr.lt
    have lwm := Rm.lt
    have lwv := Rv.lt
    have lwq := Rq.lt
    have lwx0 := Rx0.lt
    go_cut [13, 12, 14] (fun s13 s12 s14 wx => ∃ gx1 : Nat, s13 = .pointer (some ⟨gx1, 0, none⟩) ∧ s12 = .int .i64 l1 ∧ s14 = .int .i64 er ∧ w7.heap.size ≤ gx1 ∧ Row wx gx1 #[.int .i64 k1.kind, .int .i64 k1.len, .int .u64 k1.h, .int .u64 k1.l, .string ⟨k1.path.toArray⟩] 26 ∧ Row wx w.heap.size #[.int .i64 2, .int .i64 s.d0.kind, .int .i64 s.d0.side, .int .i64 s.d0.step, .int .i64 s.d1.kind, .int .i64 s.d1.side, .int .i64 s.d1.step] 36 ∧ Row wx (w.heap.size + 1) #[.int .i64 0, .int .i64 0, .int .i64 0, .int .i64 0, .int .u64 0, .int .u64 0, .string ⟨#[]⟩, .int .i64 0, .int .i64 0, .int .u64 0, .int .u64 0, .string ⟨#[]⟩] 40 ∧ Row wx wr.heap.size #[.string ⟨t.toArray⟩] 9 ∧ Row wx w2.heap.size #[.string ⟨a.toArray⟩, .string ⟨b.toArray⟩] 9 ∧ Row wx (w2.heap.size + 1) #[.int .i64 l0, .int .i64 0, .int .i64 k0.kind, .int .i64 k0.len, .int .u64 k0.h, .int .u64 k0.l, .string ⟨k0.path.toArray⟩, .int .i64 0, .int .i64 0, .int .u64 0, .int .u64 0, .string ⟨#[]⟩] 40 ∧ Row wx gx0 #[.int .i64 k0.kind, .int .i64 k0.len, .int .u64 k0.h, .int .u64 k0.l, .string ⟨k0.path.toArray⟩] 26 ∧ Below w7.heap.size w7 wx)
    case first =>
     refine wp_region_held_drew (S := (fun w' => w'.cell? ⟨w.heap.size, 4, none⟩ = some (Value.int .i64 s.d1.kind) ∧ w'.cell? ⟨w.heap.size, 5, none⟩ = some (Value.int .i64 s.d1.side) ∧ w'.cell? ⟨w.heap.size, 6, none⟩ = some (Value.int .i64 s.d1.step) ∧ w'.cell? ⟨w2.heap.size, 1, none⟩ = some (Value.string ⟨b.toArray⟩))) (by kernel_rfl) ?hSr3_ (fun hH => ?_)
     case hSr3_ => (exact ⟨c4, c5, c6, v1⟩)
     (clear c0 c1 c2 c3 c4 c5 c6 r0 r1 r2 r3 r4 r5 r6 r7 r8 r9 r10 r11 m0 v0 v1 q0 q1 q2 q3 q4 q5 q6 q7 q8 q9 q10 q11 x00 x01 x02 x03 x04; (replace Rc := Rc.drew); (replace Rr := Rr.drew); (replace Rm := Rm.drew); (replace Rv := Rv.drew); (replace Rq := Rq.drew); (replace Rx0 := Rx0.drew); (replace hb0 := hb0.drew); (generalize World.drew w7 = wq at *))
     refine tk 0 ⟨some 59, .move (.tmp 11), 3, _, _, _⟩ hH ?_
     refine tk 1 ⟨some 60, .fieldAddr 36 (.tmp 2) 1, 0, _, _, _⟩ hH ?_
     refine tk 2 ⟨some 61, .indexAddr 34 (.tmp 60) (.tmp 59), 0, _, _, _⟩ hH ?_
     refine tk 3 ⟨some 62, .load 23 (.tmp 61), 23, _, _, _⟩ hH ?_
     refine tk 4 ⟨some 63, .move (.tmp 9), 77, _, _, _⟩ hH ?_
     refine tk 5 ⟨some 64, .move (.tmp 11), 3, _, _, _⟩ hH ?_
     refine tk 6 ⟨some 65, .indexAddr 77 (.tmp 63) (.tmp 64), 0, _, _, _⟩ hH ?_
     refine tk 7 ⟨some 66, .load 9 (.tmp 65), 9, _, _, _⟩ hH ?_
     refine wpAnyH_ready (rs := [8, 13]) (by kernel_rfl) (by simp) ?_
     refine AllReadyH.cons (o := ⟨some 67, .call { callee := .value (.func 9), args := #[.tmp 62, .tmp 66], argTypes := #[23, 9] }, 28, _, _, _⟩) rfl (fun K hK => ?_) ?_
     ·(go_simp; (refine (HP1 _ (below_step hbW hb0)).mono ?_); (rintro e wz ⟨rfl, hb⟩); (replace Rc := Rc.later hb); (replace Rr := Rr.later hb); (replace Rm := Rm.later hb); (replace Rv := Rv.later hb); (replace Rq := Rq.later hb); (replace Rx0 := Rx0.later hb); (try replace Rx1 := Rx1.later hb); (replace hb0 := below_step hb0 hb); go_wp2_with fail)
      refine hK.out _ _ ?hSr3_9_8 fun _ => ?_
      case hSr3_9_8 => (exact kc hb (kc hb (kc hb (cl hb))) hH)
      clear hK K hH; rename_i hH
      rename World => wq
      (try simp only [Act.put, nz1, nz2, nz3])
      refine tk 9 ⟨some 58, .move (.tmp 67), 28, _, _, _⟩ hH ?_
      refine tk 10 ⟨some 68, .extract (.tmp 58) 0, 3, _, _, _⟩ hH ?_
      refine tk 11 ⟨some 69, .extract (.tmp 58) 1, 26, _, _, _⟩ hH ?_
      refine tk 12 ⟨some 70, .extract (.tmp 58) 2, 27, _, _, _⟩ hH ?_
      refine wpAnyH_ready (rs := [13]) (by kernel_rfl) (by simp) ?_
      refine AllReadyH.cons (o := ⟨some 13, .alloc 26, 0, _, _, _⟩) rfl (fun K hK => ?_) AllReadyH.nil
      (go_simp; (have mx1 := hb0.size); (have nx1_c := Rc.lt); (have nx1_r := Rr.lt); (have nx1_m := Rm.lt); (have nx1_v := Rv.lt); (have nx1_q := Rq.lt); (have nx1_x0 := Rx0.lt); (have Rx1 := Row.new wq #[.int .i64 0, .int .i64 0, .int .u64 0, .int .u64 0, .string ⟨#[]⟩] 26); (have hb : Below wq.heap.size wq (World.alloc wq (.cells #[.int .i64 0, .int .i64 0, .int .u64 0, .int .u64 0, .string ⟨#[]⟩] 26)) := (Below.refl _ _).alloc (Nat.le_refl _) _); (replace Rc := Rc.later hb); (replace Rr := Rr.later hb); (replace Rm := Rm.later hb); (replace Rv := Rv.later hb); (replace Rq := Rq.later hb); (replace Rx0 := Rx0.later hb); (replace hb0 := below_step hb0 hb); (have hSn := kc hb (kc hb (kc hb (cl hb))) hH); clear hb; generalize World.alloc wq (.cells #[.int .i64 0, .int .i64 0, .int .u64 0, .int .u64 0, .string ⟨#[]⟩] 26) = wz at *; generalize wq.heap.size = gx1 at *)
      refine hK.out _ _ ?hSr3_14_13 fun _ => ?_
      case hSr3_14_13 => (exact hSn)
      clear hK K hH; rename_i hH
      rename World => wq
      (try simp only [Act.put, nz1, nz2, nz3])
      refine tk 14 ⟨some 12, .assign (.tmp 68), 3, _, _, _⟩ hH ?_
      refine wpAnyH_ready (rs := [15]) (by kernel_rfl) (by simp) ?_
      refine AllReadyH.cons (o := ⟨none, .store 26 (.tmp 13) (.tmp 69), 0, _, _, _⟩) rfl (fun K hK => ?_) AllReadyH.nil
      ((rw [if_pos (by rfl)]); (with_reducible refine pst 26 (.tmp 13) (.tmp 69) ?_ gx1 0 #[.int .i64 k1.kind, .int .i64 k1.len, .int .u64 k1.h, .int .u64 k1.l, .string ⟨k1.path.toArray⟩] ?_ ?_ ?_ ?_ ?_ ?_); rfl; rfl; rfl; (exact Row.thereAt Rx1 0 _ (by simp)); (exact infoKe); (simp [Value.oneCell']); (rintro wz hwz); (have hHq := hH); (obtain ⟨c4, c5, c6, v1⟩ := hHq); (replace c4 := pcf hwz c4); (replace c5 := pcf hwz c5); (replace c6 := pcf hwz c6); (replace v1 := pcf hwz v1); (replace Rc := prf hwz Rc); (replace Rr := prf hwz Rr); (replace Rm := prf hwz Rm); (replace Rv := prf hwz Rv); (replace Rq := prf hwz Rq); (replace Rx0 := prf hwz Rx0); (replace hb0 := pbl hwz hb0); (replace Rx1 := psw hwz Rx1); clear hwz)
      refine hK.out _ _ ?hSr3_16_15 fun _ => ?_
      case hSr3_16_15 => (exact ⟨c4, c5, c6, v1⟩)
      clear hK K hH; rename_i hH
      rename World => wq
      (try simp only [Act.put, nz1, nz2, nz3])
      refine tk 16 ⟨some 14, .assign (.tmp 70), 27, _, _, _⟩ hH ?_
      refine wpAnyH_done (by kernel_rfl) ?_ _
      (go_wp2_with fail; go_meet; exact ⟨gx1, rfl, rfl, rfl, mx1, Rx1, Rc, Rr, Rm, Rv, Rq, Rx0, hb0⟩)
     refine AllReadyH.cons (o := ⟨some 13, .alloc 26, 0, _, _, _⟩) rfl (fun K hK => ?_) AllReadyH.nil
     ·(go_simp; (have mx1 := hb0.size); (have nx1_c := Rc.lt); (have nx1_r := Rr.lt); (have nx1_m := Rm.lt); (have nx1_v := Rv.lt); (have nx1_q := Rq.lt); (have nx1_x0 := Rx0.lt); (have Rx1 := Row.new wq #[.int .i64 0, .int .i64 0, .int .u64 0, .int .u64 0, .string ⟨#[]⟩] 26); (have hb : Below wq.heap.size wq (World.alloc wq (.cells #[.int .i64 0, .int .i64 0, .int .u64 0, .int .u64 0, .string ⟨#[]⟩] 26)) := (Below.refl _ _).alloc (Nat.le_refl _) _); (replace Rc := Rc.later hb); (replace Rr := Rr.later hb); (replace Rm := Rm.later hb); (replace Rv := Rv.later hb); (replace Rq := Rq.later hb); (replace Rx0 := Rx0.later hb); (replace hb0 := below_step hb0 hb); (have hSn := kc hb (kc hb (kc hb (cl hb))) hH); clear hb; generalize World.alloc wq (.cells #[.int .i64 0, .int .i64 0, .int .u64 0, .int .u64 0, .string ⟨#[]⟩] 26) = wz at *; generalize wq.heap.size = gx1 at *)
      refine hK.out _ _ ?hSr3_18_13 fun _ => ?_
      case hSr3_18_13 => (exact hSn)
      clear hK K hH; rename_i hH
      rename World => wq
      (try simp only [Act.put, nz1, nz2, nz3])
      refine wpAnyH_ready (rs := [8]) (by kernel_rfl) (by simp) ?_
      refine AllReadyH.cons (o := ⟨some 67, .call { callee := .value (.func 9), args := #[.tmp 62, .tmp 66], argTypes := #[23, 9] }, 28, _, _, _⟩) rfl (fun K hK => ?_) AllReadyH.nil
      (go_simp; (refine (HP1 _ (below_step hbW hb0)).mono ?_); (rintro e wz ⟨rfl, hb⟩); (replace Rc := Rc.later hb); (replace Rr := Rr.later hb); (replace Rm := Rm.later hb); (replace Rv := Rv.later hb); (replace Rq := Rq.later hb); (replace Rx0 := Rx0.later hb); (try replace Rx1 := Rx1.later hb); (replace hb0 := below_step hb0 hb); go_wp2_with fail)
      refine hK.out _ _ ?hSr3_19_8 fun _ => ?_
      case hSr3_19_8 => (exact kc hb (kc hb (kc hb (cl hb))) hH)
      clear hK K hH; rename_i hH
      rename World => wq
      (try simp only [Act.put, nz1, nz2, nz3])
      refine tk 9 ⟨some 58, .move (.tmp 67), 28, _, _, _⟩ hH ?_
      refine tk 10 ⟨some 68, .extract (.tmp 58) 0, 3, _, _, _⟩ hH ?_
      refine tk 11 ⟨some 69, .extract (.tmp 58) 1, 26, _, _, _⟩ hH ?_
      refine tk 12 ⟨some 70, .extract (.tmp 58) 2, 27, _, _, _⟩ hH ?_
      refine tk 14 ⟨some 12, .assign (.tmp 68), 3, _, _, _⟩ hH ?_
      refine wpAnyH_ready (rs := [15]) (by kernel_rfl) (by simp) ?_
      refine AllReadyH.cons (o := ⟨none, .store 26 (.tmp 13) (.tmp 69), 0, _, _, _⟩) rfl (fun K hK => ?_) AllReadyH.nil
      ((rw [if_pos (by rfl)]); (with_reducible refine pst 26 (.tmp 13) (.tmp 69) ?_ gx1 0 #[.int .i64 k1.kind, .int .i64 k1.len, .int .u64 k1.h, .int .u64 k1.l, .string ⟨k1.path.toArray⟩] ?_ ?_ ?_ ?_ ?_ ?_); rfl; rfl; rfl; (exact Row.thereAt Rx1 0 _ (by simp)); (exact infoKe); (simp [Value.oneCell']); (rintro wz hwz); (have hHq := hH); (obtain ⟨c4, c5, c6, v1⟩ := hHq); (replace c4 := pcf hwz c4); (replace c5 := pcf hwz c5); (replace c6 := pcf hwz c6); (replace v1 := pcf hwz v1); (replace Rc := prf hwz Rc); (replace Rr := prf hwz Rr); (replace Rm := prf hwz Rm); (replace Rv := prf hwz Rv); (replace Rq := prf hwz Rq); (replace Rx0 := prf hwz Rx0); (replace hb0 := pbl hwz hb0); (replace Rx1 := psw hwz Rx1); clear hwz)
      refine hK.out _ _ ?hSr3_25_15 fun _ => ?_
      case hSr3_25_15 => (exact ⟨c4, c5, c6, v1⟩)
      clear hK K hH; rename_i hH
      rename World => wq
      (try simp only [Act.put, nz1, nz2, nz3])
      refine tk 16 ⟨some 14, .assign (.tmp 70), 27, _, _, _⟩ hH ?_
      refine wpAnyH_done (by kernel_rfl) ?_ _
      (go_wp2_with fail; go_meet; exact ⟨gx1, rfl, rfl, rfl, mx1, Rx1, Rc, Rr, Rm, Rv, Rq, Rx0, hb0⟩)
    case rest =>
     clear c0 c1 c2 c3 c4 c5 c6 r0 r1 r2 r3 r4 r5 r6 r7 r8 r9 r10 r11 m0 v0 v1 q0 q1 q2 q3 q4 q5 q6 q7 q8 q9 q10 q11 x00 x01 x02 x03 x04 Rc Rr Rm Rv Rq Rx0 hb0
     obtain ⟨gx1, rfl, rfl, rfl, mx1, Rx1, Rc, Rr, Rm, Rv, Rq, Rx0, hb0⟩ := hcut
     rename World => w8
     have lc := Rc.lt
     have lr := Rr.lt
     have lm := Rm.lt
     have lv := Rv.lt
     have lq := Rq.lt
     have lx0 := Rx0.lt
     have lx1 := Rx1.lt
     (try clear c0 c1 c2 c3 c4 c5 c6); obtain ⟨c0, c1, c2, c3, c4, c5, c6⟩ := row7 Rc
     (try clear r0 r1 r2 r3 r4 r5 r6 r7 r8 r9 r10 r11); obtain ⟨r0, r1, r2, r3, r4, r5, r6, r7, r8, r9, r10, r11⟩ := row12 Rr
     replace m0 := (Rm.cell 0).trans (show _ = some (Value.string ⟨t.toArray⟩) from rfl)
     (try clear v0 v1); obtain ⟨v0, v1⟩ := row2 Rv
     (try clear q0 q1 q2 q3 q4 q5 q6 q7 q8 q9 q10 q11); obtain ⟨q0, q1, q2, q3, q4, q5, q6, q7, q8, q9, q10, q11⟩ := row12 Rq
     (try clear x00 x01 x02 x03 x04); obtain ⟨x00, x01, x02, x03, x04⟩ := row5 Rx0
     (try clear x10 x11 x12 x13 x14); obtain ⟨x10, x11, x12, x13, x14⟩ := row5 Rx1
     replace hb0 := below_step hbW hb0
     obtain ⟨rf0, rf1, rf2, rf3, rf4, rf5, rf6, rf7, rf8, rf9, rf10, rf11⟩ := fz12 Rr
     go_wp2
     obtain ⟨w9, hwk, hwn⟩ := pnm w8 (w.heap.size + 1) 0 [.int .i64 0, .int .i64 0, .int .i64 0, .int .i64 0, .int .u64 0, .int .u64 0, .string ⟨#[]⟩, .int .i64 0, .int .i64 0, .int .u64 0, .int .u64 0, .string ⟨#[]⟩]
     simp only [World.setCells] at hwk
     rw [← hwk]; clear hwk
     replace Rr : Row w9 (w.heap.size + 1) #[.int .i64 0, .int .i64 0, .int .i64 0, .int .i64 0, .int .u64 0, .int .u64 0, .string ⟨#[]⟩, .int .i64 0, .int .i64 0, .int .u64 0, .int .u64 0, .string ⟨#[]⟩] 40 := psm hwn Rr (by simp [setL])
     replace Rc := prf hwn Rc
     replace Rm := prf hwn Rm
     replace Rv := prf hwn Rv
     replace Rq := prf hwn Rq
     replace Rx0 := prf hwn Rx0
     replace Rx1 := prf hwn Rx1
     replace hb0 := pbl hwn hb0
     clear hwn c0 c1 c2 c3 c4 c5 c6 r0 r1 r2 r3 r4 r5 r6 r7 r8 r9 r10 r11 m0 v0 v1 q0 q1 q2 q3 q4 q5 q6 q7 q8 q9 q10 q11 x00 x01 x02 x03 x04 x10 x11 x12 x13 x14
     (try clear rf0 rf1 rf2 rf3 rf4 rf5 rf6 rf7 rf8 rf9 rf10 rf11)
     (try clear c0 c1 c2 c3 c4 c5 c6); obtain ⟨c0, c1, c2, c3, c4, c5, c6⟩ := row7 Rc
     (try clear r0 r1 r2 r3 r4 r5 r6 r7 r8 r9 r10 r11); obtain ⟨r0, r1, r2, r3, r4, r5, r6, r7, r8, r9, r10, r11⟩ := row12 Rr
     replace m0 := (Rm.cell 0).trans (show _ = some (Value.string ⟨t.toArray⟩) from rfl)
     (try clear v0 v1); obtain ⟨v0, v1⟩ := row2 Rv
     (try clear q0 q1 q2 q3 q4 q5 q6 q7 q8 q9 q10 q11); obtain ⟨q0, q1, q2, q3, q4, q5, q6, q7, q8, q9, q10, q11⟩ := row12 Rq
     (try clear x00 x01 x02 x03 x04); obtain ⟨x00, x01, x02, x03, x04⟩ := row5 Rx0
     (try clear x10 x11 x12 x13 x14); obtain ⟨x10, x11, x12, x13, x14⟩ := row5 Rx1
     refine bodyPost_ret (v := .tuple #[.agg #[.int .i64 0, .int .i64 0, .int .i64 0, .int .i64 0, .int .u64 0, .int .u64 0, .string ⟨#[]⟩, .int .i64 0, .int .i64 0, .int .u64 0, .int .u64 0, .string ⟨#[]⟩], .int .i64 er]) (by simp [results, Tryz.results18, go_sem, r0, r1, r2, r3, r4, r5, r6, r7, r8, r9, r10, r11]) rfl ⟨rfl, hb0⟩
theorem rps_2oo (s : Sp) (t a b : List UInt8) (m : Nat) (hl : t.length ≤ 2000000) (ht : t = a ++ 62 :: b) (hm : m = a.length) (hb : (62 : UInt8) ∉ b) (l0 : Int) (k0 : Ke) (l1 : Int) (k1 : Ke) (w : World)
  (HT : ((cntT t t.length : Nat) : Int) = 1)
  (HR : ∀ w', Below w.heap.size w w' → Calls Tryz.prog 50 #[.agg #[.int .i64 2, .int .i64 s.d0.kind, .int .i64 s.d0.side, .int .i64 s.d0.step, .int .i64 s.d1.kind, .int .i64 s.d1.side, .int .i64 s.d1.step]] w' fun e w'' => e = .returned (.bool true) ∧ Below w'.heap.size w' w'')
  (HP0 : ∀ w', Below w.heap.size w w' → Calls Tryz.prog 9 #[.agg #[.int .i64 s.d0.kind, .int .i64 s.d0.side, .int .i64 s.d0.step], .string ⟨a.toArray⟩] w' fun e w'' => e = .returned (.tuple #[.int .i64 l0, kv k0, .int .i64 0]) ∧ Below w'.heap.size w' w'')
  (HP1 : ∀ w', Below w.heap.size w w' → Calls Tryz.prog 9 #[.agg #[.int .i64 s.d1.kind, .int .i64 s.d1.side, .int .i64 s.d1.step], .string ⟨b.toArray⟩] w' fun e w'' => e = .returned (.tuple #[.int .i64 l1, kv k1, .int .i64 0]) ∧ Below w'.heap.size w' w'')
  : Calls Tryz.prog 18 #[.agg #[.int .i64 2, .int .i64 s.d0.kind, .int .i64 s.d0.side, .int .i64 s.d0.step, .int .i64 s.d1.kind, .int .i64 s.d1.side, .int .i64 s.d1.step], .string ⟨t.toArray⟩] w fun e w' => e = .returned (.tuple #[.agg #[.int .i64 l0, .int .i64 l1, .int .i64 k0.kind, .int .i64 k0.len, .int .u64 k0.h, .int .u64 k0.l, .string ⟨k0.path.toArray⟩, .int .i64 k1.kind, .int .i64 k1.len, .int .u64 k1.h, .int .u64 k1.l, .string ⟨k1.path.toArray⟩], .int .i64 0]) ∧ Below w.heap.size w w' := by
 have hcz : ((1 : Int) != IntKind.i64.wrap 1) = false := by decide
 unfold kv at *
 have hlen : m + 1 + b.length = t.length := by rw [ht, hm, List.length_append, List.length_cons]; omega
 have HA : lastT t t.length = m := by
  have h := lastT_at (a := a) hb b.length (Nat.le_refl _)
  rw [← ht, ← hm, hlen] at h
  exact h
 have hx1 : (⟨t.toArray⟩ : ByteArray).extract (m + 1) t.length = ⟨b.toArray⟩ := by
  rw [ext_l, List.take_length, ht, hm, ← List.drop_drop, List.drop_left]; rfl
 have hx0 : (⟨t.toArray⟩ : ByteArray).extract 0 m = ⟨a.toArray⟩ := by
  rw [ext_l, ht, hm, List.take_left]; rfl
 have hml : m < t.length := by omega
 clear ht hm hb
 obtain ⟨Rc, Rr, hb0⟩ := two_rows w #[.int .i64 2, .int .i64 s.d0.kind, .int .i64 s.d0.side, .int .i64 s.d0.step, .int .i64 s.d1.kind, .int .i64 s.d1.side, .int .i64 s.d1.step] #[.int .i64 0, .int .i64 0, .int .i64 0, .int .i64 0, .int .u64 0, .int .u64 0, .string ⟨#[]⟩, .int .i64 0, .int .i64 0, .int .u64 0, .int .u64 0, .string ⟨#[]⟩] 36 40
 (try clear c0 c1 c2 c3 c4 c5 c6); obtain ⟨c0, c1, c2, c3, c4, c5, c6⟩ := row7 Rc
 (try clear r0 r1 r2 r3 r4 r5 r6 r7 r8 r9 r10 r11); obtain ⟨r0, r1, r2, r3, r4, r5, r6, r7, r8, r9, r10, r11⟩ := row12 Rr
 go_enter Tryz.func18, Tryz.ntmps18
 go_wp2_with fail
 refine (HR _ hb0).mono ?_
 rintro e w1 ⟨rfl, hb⟩
 replace Rc := Rc.later hb
 replace Rr := Rr.later hb
 replace hb0 := below_step hb0 hb
 clear hb
 have lc := Rc.lt
 have lr := Rr.lt
 (try clear c0 c1 c2 c3 c4 c5 c6); obtain ⟨c0, c1, c2, c3, c4, c5, c6⟩ := row7 Rc
 (try clear r0 r1 r2 r3 r4 r5 r6 r7 r8 r9 r10 r11); obtain ⟨r0, r1, r2, r3, r4, r5, r6, r7, r8, r9, r10, r11⟩ := row12 Rr
 have hsz := bsz t
 go_wp2_with fail
 go_loopw [6, 7, 8] (fun x y z wr => ∃ i : Nat, i ≤ t.length ∧ x = .int .i64 (cntT t i) ∧ y = .int .i64 (lastT t i) ∧ z = .int .i64 i ∧ wr = w1) (fun _ _ z _ => t.length - (intOf z).toNat)
 case atStart => exact ⟨0, by omega, rfl, rfl, rfl, rfl⟩
 case round =>
  obtain ⟨i, hi, hx, hy, rfl, rfl⟩ := hrel
  by_cases hlt : i < t.length
  ·obtain ⟨c, hlj⟩ : ∃ c, t[i]? = some c := ⟨t[i], List.getElem?_eq_getElem hlt⟩
   have hsp : i < (⟨t.toArray⟩ : ByteArray).size := by rw [hsz]; exact hlt
   have hch : (⟨t.toArray⟩ : ByteArray)[i]'hsp = c := by
    have := (List.getElem?_eq_some_iff.1 hlj).2
    exact this
   have hcl := cntT_le t i
   subst hx hy
   have hltn : (i : Int) < t.length := by omega
   by_cases h62 : c = 62
   ·subst h62
    have ec := cntT_yes hlj
    have el := lastT_yes hlj
    clear hlj
    go_wp2_with fail
    refine ⟨⟨i + 1, by omega, ?_, ?_, by congr 1 <;> omega, by first | rfl | trivial⟩, by simp [intOf] <;> omega⟩
    ·rw [ec]; congr 1 <;> omega
    ·rw [el]
   ·have n62 : ¬ (c.toNat : Int) = 62 := fun e => h62 (UInt8.toNat.inj (by rw [show (62 : UInt8).toNat = 62 from rfl]; omega))
    have e62 : ((c.toNat : Int) == 62) = false := by simpa using n62
    have ec := cntT_no hlj h62
    have el := lastT_no hlj h62
    clear hlj
    go_wp2_with fail
    refine ⟨⟨i + 1, by omega, ?_, ?_, by congr 1 <;> omega, by first | rfl | trivial⟩, by simp [intOf] <;> omega⟩
    ·rw [ec]
    ·rw [el]
  ·have hit : i = t.length := by omega
   have hltn : ¬ (i : Int) < t.length := by omega
   rw [hit] at hx
   rw [HT] at hx
   subst hx
   rw [hit] at hy
   rw [HA] at hy
   subst hy
   go_wp2_with fail
   have nmc := Rc.lt
   have nmr := Rr.lt
   replace Rc := Rc.alloc (.cells #[.string ⟨t.toArray⟩] 9)
   replace Rr := Rr.alloc (.cells #[.string ⟨t.toArray⟩] 9)
   have Rm := Row.new wr #[Value.string ⟨t.toArray⟩] 9
   have mm := hb0.size
   replace hb0 := hb0.alloc hb0.size (.cells #[.string ⟨t.toArray⟩] 9)
   (try clear c0 c1 c2 c3 c4 c5 c6); obtain ⟨c0, c1, c2, c3, c4, c5, c6⟩ := row7 Rc
   (try clear r0 r1 r2 r3 r4 r5 r6 r7 r8 r9 r10 r11); obtain ⟨r0, r1, r2, r3, r4, r5, r6, r7, r8, r9, r10, r11⟩ := row12 Rr
   replace m0 := (Rm.cell 0).trans (show _ = some (Value.string ⟨t.toArray⟩) from rfl)
   have hwj : IntKind.i64.wrap ((m : Int) + 1) = (m : Int) + 1 := by rw [IntKind.wrap_i64]; omega
   have hj0 : (0 : Int) ≤ (m : Int) + 1 := by omega
   have hj1 : (m : Int) + 1 ≤ t.length := by omega
   have hjt : ((m : Int) + 1).toNat = m + 1 := by omega
   have hml2 : m ≤ t.length := by omega
   generalize (World.alloc wr (.cells #[.string ⟨t.toArray⟩] 9)) = w2 at *
   go_region
   clear hwj hj0 hj1 hjt
   go_wp2_with fail
   have nvc := Rc.lt
   have nvr := Rr.lt
   have nvm := Rm.lt
   replace Rc := Rc.alloc (.cells #[.string ⟨a.toArray⟩, .string ⟨b.toArray⟩] 9)
   replace Rr := Rr.alloc (.cells #[.string ⟨a.toArray⟩, .string ⟨b.toArray⟩] 9)
   replace Rm := Rm.alloc (.cells #[.string ⟨a.toArray⟩, .string ⟨b.toArray⟩] 9)
   have Rv := Row.new w2 #[Value.string ⟨a.toArray⟩, Value.string ⟨b.toArray⟩] 9
   have mv := hb0.size
   replace hb0 := hb0.alloc hb0.size (.cells #[.string ⟨a.toArray⟩, .string ⟨b.toArray⟩] 9)
   (try clear c0 c1 c2 c3 c4 c5 c6); obtain ⟨c0, c1, c2, c3, c4, c5, c6⟩ := row7 Rc
   (try clear r0 r1 r2 r3 r4 r5 r6 r7 r8 r9 r10 r11); obtain ⟨r0, r1, r2, r3, r4, r5, r6, r7, r8, r9, r10, r11⟩ := row12 Rr
   replace m0 := (Rm.cell 0).trans (show _ = some (Value.string ⟨t.toArray⟩) from rfl)
   (try clear v0 v1); obtain ⟨v0, v1⟩ := row2 Rv
   replace Rc := Rc.alloc (.cells #[.int .i64 0, .int .i64 0, .int .i64 0, .int .i64 0, .int .u64 0, .int .u64 0, .string ⟨#[]⟩, .int .i64 0, .int .i64 0, .int .u64 0, .int .u64 0, .string ⟨#[]⟩] 40)
   replace Rr := Rr.alloc (.cells #[.int .i64 0, .int .i64 0, .int .i64 0, .int .i64 0, .int .u64 0, .int .u64 0, .string ⟨#[]⟩, .int .i64 0, .int .i64 0, .int .u64 0, .int .u64 0, .string ⟨#[]⟩] 40)
   replace Rm := Rm.alloc (.cells #[.int .i64 0, .int .i64 0, .int .i64 0, .int .i64 0, .int .u64 0, .int .u64 0, .string ⟨#[]⟩, .int .i64 0, .int .i64 0, .int .u64 0, .int .u64 0, .string ⟨#[]⟩] 40)
   replace Rv := Rv.alloc (.cells #[.int .i64 0, .int .i64 0, .int .i64 0, .int .i64 0, .int .u64 0, .int .u64 0, .string ⟨#[]⟩, .int .i64 0, .int .i64 0, .int .u64 0, .int .u64 0, .string ⟨#[]⟩] 40)
   have Rq := Row.new (World.alloc w2 (.cells #[.string ⟨a.toArray⟩, .string ⟨b.toArray⟩] 9)) #[Value.int .i64 0, Value.int .i64 0, Value.int .i64 0, Value.int .i64 0, Value.int .u64 0, Value.int .u64 0, Value.string ⟨#[]⟩, Value.int .i64 0, Value.int .i64 0, Value.int .u64 0, Value.int .u64 0, Value.string ⟨#[]⟩] 40
   simp only [World.size_alloc] at Rq
   have mq := hb0.size
   replace hb0 := hb0.alloc hb0.size (.cells #[.int .i64 0, .int .i64 0, .int .i64 0, .int .i64 0, .int .u64 0, .int .u64 0, .string ⟨#[]⟩, .int .i64 0, .int .i64 0, .int .u64 0, .int .u64 0, .string ⟨#[]⟩] 40)
   (try clear c0 c1 c2 c3 c4 c5 c6); obtain ⟨c0, c1, c2, c3, c4, c5, c6⟩ := row7 Rc
   (try clear r0 r1 r2 r3 r4 r5 r6 r7 r8 r9 r10 r11); obtain ⟨r0, r1, r2, r3, r4, r5, r6, r7, r8, r9, r10, r11⟩ := row12 Rr
   replace m0 := (Rm.cell 0).trans (show _ = some (Value.string ⟨t.toArray⟩) from rfl)
   (try clear v0 v1); obtain ⟨v0, v1⟩ := row2 Rv
   (try clear q0 q1 q2 q3 q4 q5 q6 q7 q8 q9 q10 q11); obtain ⟨q0, q1, q2, q3, q4, q5, q6, q7, q8, q9, q10, q11⟩ := row12 Rq
   clear c0 c1 c2 c3 c4 c5 c6 r0 r1 r2 r3 r4 r5 r6 r7 r8 r9 r10 r11 m0 v0 v1 q0 q1 q2 q3 q4 q5 q6 q7 q8 q9 q10 q11
   replace Rc := Rc.drew
   replace Rr := Rr.drew
   replace Rm := Rm.drew
   replace Rv := Rv.drew
   replace Rq := Rq.drew
   replace hb0 := hb0.drew
   generalize World.drew (World.alloc (World.alloc w2 (.cells #[.string ⟨a.toArray⟩, .string ⟨b.toArray⟩] 9)) (.cells #[.int .i64 0, .int .i64 0, .int .i64 0, .int .i64 0, .int .u64 0, .int .u64 0, .string ⟨#[]⟩, .int .i64 0, .int .i64 0, .int .u64 0, .int .u64 0, .string ⟨#[]⟩] 40)) = w3 at *
   have lc := Rc.lt
   have lr := Rr.lt
   have lm := Rm.lt
   have lv := Rv.lt
   have lq := Rq.lt
   (try clear c0 c1 c2 c3 c4 c5 c6); obtain ⟨c0, c1, c2, c3, c4, c5, c6⟩ := row7 Rc
   (try clear r0 r1 r2 r3 r4 r5 r6 r7 r8 r9 r10 r11); obtain ⟨r0, r1, r2, r3, r4, r5, r6, r7, r8, r9, r10, r11⟩ := row12 Rr
   replace m0 := (Rm.cell 0).trans (show _ = some (Value.string ⟨t.toArray⟩) from rfl)
   (try clear v0 v1); obtain ⟨v0, v1⟩ := row2 Rv
   (try clear q0 q1 q2 q3 q4 q5 q6 q7 q8 q9 q10 q11); obtain ⟨q0, q1, q2, q3, q4, q5, q6, q7, q8, q9, q10, q11⟩ := row12 Rq
   refine wp_loop_rounds 3 ?_
   rw [rounds_succ]
   go_wp2_with fail
   have hbW := hb0
   replace hb0 := Below.refl (Array.size (World.heap w3)) w3
   have lwc := Rc.lt
   have lwr := Rr.lt
   have lwm := Rm.lt
   have lwv := Rv.lt
   have lwq := Rq.lt
   go_cut [13, 12, 14] (fun s13 s12 s14 wx => ∃ gx0 : Nat, s13 = .pointer (some ⟨gx0, 0, none⟩) ∧ s12 = .int .i64 l0 ∧ s14 = .int .i64 0 ∧ w3.heap.size ≤ gx0 ∧ Row wx gx0 #[.int .i64 k0.kind, .int .i64 k0.len, .int .u64 k0.h, .int .u64 k0.l, .string ⟨k0.path.toArray⟩] 26 ∧ Row wx w.heap.size #[.int .i64 2, .int .i64 s.d0.kind, .int .i64 s.d0.side, .int .i64 s.d0.step, .int .i64 s.d1.kind, .int .i64 s.d1.side, .int .i64 s.d1.step] 36 ∧ Row wx (w.heap.size + 1) #[.int .i64 0, .int .i64 0, .int .i64 0, .int .i64 0, .int .u64 0, .int .u64 0, .string ⟨#[]⟩, .int .i64 0, .int .i64 0, .int .u64 0, .int .u64 0, .string ⟨#[]⟩] 40 ∧ Row wx wr.heap.size #[.string ⟨t.toArray⟩] 9 ∧ Row wx w2.heap.size #[.string ⟨a.toArray⟩, .string ⟨b.toArray⟩] 9 ∧ Row wx (w2.heap.size + 1) #[.int .i64 0, .int .i64 0, .int .i64 0, .int .i64 0, .int .u64 0, .int .u64 0, .string ⟨#[]⟩, .int .i64 0, .int .i64 0, .int .u64 0, .int .u64 0, .string ⟨#[]⟩] 40 ∧ Below w3.heap.size w3 wx)
   case first =>
    refine wp_region_held_drew (S := (fun w' => w'.cell? ⟨w.heap.size, 1, none⟩ = some (Value.int .i64 s.d0.kind) ∧ w'.cell? ⟨w.heap.size, 2, none⟩ = some (Value.int .i64 s.d0.side) ∧ w'.cell? ⟨w.heap.size, 3, none⟩ = some (Value.int .i64 s.d0.step) ∧ w'.cell? ⟨w2.heap.size, 0, none⟩ = some (Value.string ⟨a.toArray⟩))) (by kernel_rfl) ?hSr4_ (fun hH => ?_)
    case hSr4_ => (exact ⟨c1, c2, c3, v0⟩)
    (clear c0 c1 c2 c3 c4 c5 c6 r0 r1 r2 r3 r4 r5 r6 r7 r8 r9 r10 r11 m0 v0 v1 q0 q1 q2 q3 q4 q5 q6 q7 q8 q9 q10 q11; (replace Rc := Rc.drew); (replace Rr := Rr.drew); (replace Rm := Rm.drew); (replace Rv := Rv.drew); (replace Rq := Rq.drew); (replace hb0 := hb0.drew); (generalize World.drew w3 = wq at *))
    refine tk 0 ⟨some 59, .move (.tmp 11), 3, _, _, _⟩ hH ?_
    refine tk 1 ⟨some 60, .fieldAddr 36 (.tmp 2) 1, 0, _, _, _⟩ hH ?_
    refine tk 2 ⟨some 61, .indexAddr 34 (.tmp 60) (.tmp 59), 0, _, _, _⟩ hH ?_
    refine tk 3 ⟨some 62, .load 23 (.tmp 61), 23, _, _, _⟩ hH ?_
    refine tk 4 ⟨some 63, .move (.tmp 9), 77, _, _, _⟩ hH ?_
    refine tk 5 ⟨some 64, .move (.tmp 11), 3, _, _, _⟩ hH ?_
    refine tk 6 ⟨some 65, .indexAddr 77 (.tmp 63) (.tmp 64), 0, _, _, _⟩ hH ?_
    refine tk 7 ⟨some 66, .load 9 (.tmp 65), 9, _, _, _⟩ hH ?_
    refine wpAnyH_ready (rs := [8, 13]) (by kernel_rfl) (by simp) ?_
    refine AllReadyH.cons (o := ⟨some 67, .call { callee := .value (.func 9), args := #[.tmp 62, .tmp 66], argTypes := #[23, 9] }, 28, _, _, _⟩) rfl (fun K hK => ?_) ?_
    ·(go_simp; (refine (HP0 _ (below_step hbW hb0)).mono ?_); (rintro e wz ⟨rfl, hb⟩); (replace Rc := Rc.later hb); (replace Rr := Rr.later hb); (replace Rm := Rm.later hb); (replace Rv := Rv.later hb); (replace Rq := Rq.later hb); (try replace Rx0 := Rx0.later hb); (replace hb0 := below_step hb0 hb); go_wp2_with fail)
     refine hK.out _ _ ?hSr4_9_8 fun _ => ?_
     case hSr4_9_8 => (exact kc hb (kc hb (kc hb (cl hb))) hH)
     clear hK K hH; rename_i hH
     rename World => wq
     (try simp only [Act.put, nz1, nz2, nz3])
     refine tk 9 ⟨some 58, .move (.tmp 67), 28, _, _, _⟩ hH ?_
     refine tk 10 ⟨some 68, .extract (.tmp 58) 0, 3, _, _, _⟩ hH ?_
     refine tk 11 ⟨some 69, .extract (.tmp 58) 1, 26, _, _, _⟩ hH ?_
     refine tk 12 ⟨some 70, .extract (.tmp 58) 2, 27, _, _, _⟩ hH ?_
     refine wpAnyH_ready (rs := [13]) (by kernel_rfl) (by simp) ?_
     refine AllReadyH.cons (o := ⟨some 13, .alloc 26, 0, _, _, _⟩) rfl (fun K hK => ?_) AllReadyH.nil
     (go_simp; (have mx0 := hb0.size); (have nx0_c := Rc.lt); (have nx0_r := Rr.lt); (have nx0_m := Rm.lt); (have nx0_v := Rv.lt); (have nx0_q := Rq.lt); (have Rx0 := Row.new wq #[.int .i64 0, .int .i64 0, .int .u64 0, .int .u64 0, .string ⟨#[]⟩] 26); (have hb : Below wq.heap.size wq (World.alloc wq (.cells #[.int .i64 0, .int .i64 0, .int .u64 0, .int .u64 0, .string ⟨#[]⟩] 26)) := (Below.refl _ _).alloc (Nat.le_refl _) _); (replace Rc := Rc.later hb); (replace Rr := Rr.later hb); (replace Rm := Rm.later hb); (replace Rv := Rv.later hb); (replace Rq := Rq.later hb); (replace hb0 := below_step hb0 hb); (have hSn := kc hb (kc hb (kc hb (cl hb))) hH); clear hb; generalize World.alloc wq (.cells #[.int .i64 0, .int .i64 0, .int .u64 0, .int .u64 0, .string ⟨#[]⟩] 26) = wz at *; generalize wq.heap.size = gx0 at *)
     refine hK.out _ _ ?hSr4_14_13 fun _ => ?_
     case hSr4_14_13 => (exact hSn)
     clear hK K hH; rename_i hH
     rename World => wq
     (try simp only [Act.put, nz1, nz2, nz3])
     refine tk 14 ⟨some 12, .assign (.tmp 68), 3, _, _, _⟩ hH ?_
     refine wpAnyH_ready (rs := [15]) (by kernel_rfl) (by simp) ?_
     refine AllReadyH.cons (o := ⟨none, .store 26 (.tmp 13) (.tmp 69), 0, _, _, _⟩) rfl (fun K hK => ?_) AllReadyH.nil
     ((rw [if_pos (by rfl)]); (with_reducible refine pst 26 (.tmp 13) (.tmp 69) ?_ gx0 0 #[.int .i64 k0.kind, .int .i64 k0.len, .int .u64 k0.h, .int .u64 k0.l, .string ⟨k0.path.toArray⟩] ?_ ?_ ?_ ?_ ?_ ?_); rfl; rfl; rfl; (exact Row.thereAt Rx0 0 _ (by simp)); (exact infoKe); (simp [Value.oneCell']); (rintro wz hwz); (have hHq := hH); (obtain ⟨c1, c2, c3, v0⟩ := hHq); (replace c1 := pcf hwz c1); (replace c2 := pcf hwz c2); (replace c3 := pcf hwz c3); (replace v0 := pcf hwz v0); (replace Rc := prf hwz Rc); (replace Rr := prf hwz Rr); (replace Rm := prf hwz Rm); (replace Rv := prf hwz Rv); (replace Rq := prf hwz Rq); (replace hb0 := pbl hwz hb0); (replace Rx0 := psw hwz Rx0); clear hwz)
     refine hK.out _ _ ?hSr4_16_15 fun _ => ?_
     case hSr4_16_15 => (exact ⟨c1, c2, c3, v0⟩)
     clear hK K hH; rename_i hH
     rename World => wq
     (try simp only [Act.put, nz1, nz2, nz3])
     refine tk 16 ⟨some 14, .assign (.tmp 70), 27, _, _, _⟩ hH ?_
     refine wpAnyH_done (by kernel_rfl) ?_ _
     (go_wp2_with fail; go_meet; exact ⟨gx0, rfl, rfl, rfl, mx0, Rx0, Rc, Rr, Rm, Rv, Rq, hb0⟩)
    refine AllReadyH.cons (o := ⟨some 13, .alloc 26, 0, _, _, _⟩) rfl (fun K hK => ?_) AllReadyH.nil
    ·(go_simp; (have mx0 := hb0.size); (have nx0_c := Rc.lt); (have nx0_r := Rr.lt); (have nx0_m := Rm.lt); (have nx0_v := Rv.lt); (have nx0_q := Rq.lt); (have Rx0 := Row.new wq #[.int .i64 0, .int .i64 0, .int .u64 0, .int .u64 0, .string ⟨#[]⟩] 26); (have hb : Below wq.heap.size wq (World.alloc wq (.cells #[.int .i64 0, .int .i64 0, .int .u64 0, .int .u64 0, .string ⟨#[]⟩] 26)) := (Below.refl _ _).alloc (Nat.le_refl _) _); (replace Rc := Rc.later hb); (replace Rr := Rr.later hb); (replace Rm := Rm.later hb); (replace Rv := Rv.later hb); (replace Rq := Rq.later hb); (replace hb0 := below_step hb0 hb); (have hSn := kc hb (kc hb (kc hb (cl hb))) hH); clear hb; generalize World.alloc wq (.cells #[.int .i64 0, .int .i64 0, .int .u64 0, .int .u64 0, .string ⟨#[]⟩] 26) = wz at *; generalize wq.heap.size = gx0 at *)
     refine hK.out _ _ ?hSr4_18_13 fun _ => ?_
     case hSr4_18_13 => (exact hSn)
     clear hK K hH; rename_i hH
     rename World => wq
     (try simp only [Act.put, nz1, nz2, nz3])
     refine wpAnyH_ready (rs := [8]) (by kernel_rfl) (by simp) ?_
     refine AllReadyH.cons (o := ⟨some 67, .call { callee := .value (.func 9), args := #[.tmp 62, .tmp 66], argTypes := #[23, 9] }, 28, _, _, _⟩) rfl (fun K hK => ?_) AllReadyH.nil
     (go_simp; (refine (HP0 _ (below_step hbW hb0)).mono ?_); (rintro e wz ⟨rfl, hb⟩); (replace Rc := Rc.later hb); (replace Rr := Rr.later hb); (replace Rm := Rm.later hb); (replace Rv := Rv.later hb); (replace Rq := Rq.later hb); (try replace Rx0 := Rx0.later hb); (replace hb0 := below_step hb0 hb); go_wp2_with fail)
     refine hK.out _ _ ?hSr4_19_8 fun _ => ?_
     case hSr4_19_8 => (exact kc hb (kc hb (kc hb (cl hb))) hH)
     clear hK K hH; rename_i hH
     rename World => wq
     (try simp only [Act.put, nz1, nz2, nz3])
     refine tk 9 ⟨some 58, .move (.tmp 67), 28, _, _, _⟩ hH ?_
     refine tk 10 ⟨some 68, .extract (.tmp 58) 0, 3, _, _, _⟩ hH ?_
     refine tk 11 ⟨some 69, .extract (.tmp 58) 1, 26, _, _, _⟩ hH ?_
     refine tk 12 ⟨some 70, .extract (.tmp 58) 2, 27, _, _, _⟩ hH ?_
     refine tk 14 ⟨some 12, .assign (.tmp 68), 3, _, _, _⟩ hH ?_
     refine wpAnyH_ready (rs := [15]) (by kernel_rfl) (by simp) ?_
     refine AllReadyH.cons (o := ⟨none, .store 26 (.tmp 13) (.tmp 69), 0, _, _, _⟩) rfl (fun K hK => ?_) AllReadyH.nil
     ((rw [if_pos (by rfl)]); (with_reducible refine pst 26 (.tmp 13) (.tmp 69) ?_ gx0 0 #[.int .i64 k0.kind, .int .i64 k0.len, .int .u64 k0.h, .int .u64 k0.l, .string ⟨k0.path.toArray⟩] ?_ ?_ ?_ ?_ ?_ ?_); rfl; rfl; rfl; (exact Row.thereAt Rx0 0 _ (by simp)); (exact infoKe); (simp [Value.oneCell']); (rintro wz hwz); (have hHq := hH); (obtain ⟨c1, c2, c3, v0⟩ := hHq); (replace c1 := pcf hwz c1); (replace c2 := pcf hwz c2); (replace c3 := pcf hwz c3); (replace v0 := pcf hwz v0); (replace Rc := prf hwz Rc); (replace Rr := prf hwz Rr); (replace Rm := prf hwz Rm); (replace Rv := prf hwz Rv); (replace Rq := prf hwz Rq); (replace hb0 := pbl hwz hb0); (replace Rx0 := psw hwz Rx0); clear hwz)
     refine hK.out _ _ ?hSr4_25_15 fun _ => ?_
     case hSr4_25_15 => (exact ⟨c1, c2, c3, v0⟩)
     clear hK K hH; rename_i hH
     rename World => wq
     (try simp only [Act.put, nz1, nz2, nz3])
     refine tk 16 ⟨some 14, .assign (.tmp 70), 27, _, _, _⟩ hH ?_
     refine wpAnyH_done (by kernel_rfl) ?_ _
     (go_wp2_with fail; go_meet; exact ⟨gx0, rfl, rfl, rfl, mx0, Rx0, Rc, Rr, Rm, Rv, Rq, hb0⟩)
   case rest =>
    clear c0 c1 c2 c3 c4 c5 c6 r0 r1 r2 r3 r4 r5 r6 r7 r8 r9 r10 r11 m0 v0 v1 q0 q1 q2 q3 q4 q5 q6 q7 q8 q9 q10 q11 Rc Rr Rm Rv Rq hb0
    obtain ⟨gx0, rfl, rfl, rfl, mx0, Rx0, Rc, Rr, Rm, Rv, Rq, hb0⟩ := hcut
    rename World => w4
    have lc := Rc.lt
    have lr := Rr.lt
    have lm := Rm.lt
    have lv := Rv.lt
    have lq := Rq.lt
    have lx0 := Rx0.lt
    (try clear c0 c1 c2 c3 c4 c5 c6); obtain ⟨c0, c1, c2, c3, c4, c5, c6⟩ := row7 Rc
    (try clear r0 r1 r2 r3 r4 r5 r6 r7 r8 r9 r10 r11); obtain ⟨r0, r1, r2, r3, r4, r5, r6, r7, r8, r9, r10, r11⟩ := row12 Rr
    replace m0 := (Rm.cell 0).trans (show _ = some (Value.string ⟨t.toArray⟩) from rfl)
    (try clear v0 v1); obtain ⟨v0, v1⟩ := row2 Rv
    (try clear q0 q1 q2 q3 q4 q5 q6 q7 q8 q9 q10 q11); obtain ⟨q0, q1, q2, q3, q4, q5, q6, q7, q8, q9, q10, q11⟩ := row12 Rq
    (try clear x00 x01 x02 x03 x04); obtain ⟨x00, x01, x02, x03, x04⟩ := row5 Rx0
    replace hb0 := below_step hbW hb0
    obtain ⟨qf0, qf1, qf2, qf3, qf4, qf5, qf6, qf7, qf8, qf9, qf10, qf11⟩ := fz12 Rq
    go_wp2_with fail
    obtain ⟨w5, hwk, hwn⟩ := pnm w4 (w2.heap.size + 1) 0 [.int .i64 l0]
    simp only [World.setCells] at hwk
    rw [← hwk]; clear hwk
    replace Rq : Row w5 (w2.heap.size + 1) #[.int .i64 l0, .int .i64 0, .int .i64 0, .int .i64 0, .int .u64 0, .int .u64 0, .string ⟨#[]⟩, .int .i64 0, .int .i64 0, .int .u64 0, .int .u64 0, .string ⟨#[]⟩] 40 := psm hwn Rq (by simp [setL])
    replace Rc := prf hwn Rc
    replace Rr := prf hwn Rr
    replace Rm := prf hwn Rm
    replace Rv := prf hwn Rv
    replace Rx0 := prf hwn Rx0
    replace hb0 := pbl hwn hb0
    clear hwn c0 c1 c2 c3 c4 c5 c6 r0 r1 r2 r3 r4 r5 r6 r7 r8 r9 r10 r11 m0 v0 v1 q0 q1 q2 q3 q4 q5 q6 q7 q8 q9 q10 q11 x00 x01 x02 x03 x04
    (try clear qf0 qf1 qf2 qf3 qf4 qf5 qf6 qf7 qf8 qf9 qf10 qf11)
    (try clear c0 c1 c2 c3 c4 c5 c6); obtain ⟨c0, c1, c2, c3, c4, c5, c6⟩ := row7 Rc
    (try clear r0 r1 r2 r3 r4 r5 r6 r7 r8 r9 r10 r11); obtain ⟨r0, r1, r2, r3, r4, r5, r6, r7, r8, r9, r10, r11⟩ := row12 Rr
    replace m0 := (Rm.cell 0).trans (show _ = some (Value.string ⟨t.toArray⟩) from rfl)
    (try clear v0 v1); obtain ⟨v0, v1⟩ := row2 Rv
    (try clear q0 q1 q2 q3 q4 q5 q6 q7 q8 q9 q10 q11); obtain ⟨q0, q1, q2, q3, q4, q5, q6, q7, q8, q9, q10, q11⟩ := row12 Rq
    (try clear x00 x01 x02 x03 x04); obtain ⟨x00, x01, x02, x03, x04⟩ := row5 Rx0
    obtain ⟨w6, hwk, hwn⟩ := pnm w5 (w2.heap.size + 1) 2 [.int .i64 k0.kind, .int .i64 k0.len, .int .u64 k0.h, .int .u64 k0.l, .string ⟨k0.path.toArray⟩]
    simp only [World.setCells] at hwk
    rw [← hwk]; clear hwk
    replace Rq : Row w6 (w2.heap.size + 1) #[.int .i64 l0, .int .i64 0, .int .i64 k0.kind, .int .i64 k0.len, .int .u64 k0.h, .int .u64 k0.l, .string ⟨k0.path.toArray⟩, .int .i64 0, .int .i64 0, .int .u64 0, .int .u64 0, .string ⟨#[]⟩] 40 := psm hwn Rq (by simp [setL])
    replace Rc := prf hwn Rc
    replace Rr := prf hwn Rr
    replace Rm := prf hwn Rm
    replace Rv := prf hwn Rv
    replace Rx0 := prf hwn Rx0
    replace hb0 := pbl hwn hb0
    clear hwn c0 c1 c2 c3 c4 c5 c6 r0 r1 r2 r3 r4 r5 r6 r7 r8 r9 r10 r11 m0 v0 v1 q0 q1 q2 q3 q4 q5 q6 q7 q8 q9 q10 q11 x00 x01 x02 x03 x04
    (try clear qf0 qf1 qf2 qf3 qf4 qf5 qf6 qf7 qf8 qf9 qf10 qf11)
    (try clear c0 c1 c2 c3 c4 c5 c6); obtain ⟨c0, c1, c2, c3, c4, c5, c6⟩ := row7 Rc
    (try clear r0 r1 r2 r3 r4 r5 r6 r7 r8 r9 r10 r11); obtain ⟨r0, r1, r2, r3, r4, r5, r6, r7, r8, r9, r10, r11⟩ := row12 Rr
    replace m0 := (Rm.cell 0).trans (show _ = some (Value.string ⟨t.toArray⟩) from rfl)
    (try clear v0 v1); obtain ⟨v0, v1⟩ := row2 Rv
    (try clear q0 q1 q2 q3 q4 q5 q6 q7 q8 q9 q10 q11); obtain ⟨q0, q1, q2, q3, q4, q5, q6, q7, q8, q9, q10, q11⟩ := row12 Rq
    (try clear x00 x01 x02 x03 x04); obtain ⟨x00, x01, x02, x03, x04⟩ := row5 Rx0
    rw [rounds_succ]
    go_wp2_with fail
    generalize w6 = w7 at *
    have hbW := hb0
    replace hb0 := Below.refl (Array.size (World.heap w7)) w7
    have lwc := Rc.lt
    have lwr := Rr.lt
    have lwm := Rm.lt
    have lwv := Rv.lt
    have lwq := Rq.lt
    have lwx0 := Rx0.lt
    go_cut [13, 12, 14] (fun s13 s12 s14 wx => ∃ gx1 : Nat, s13 = .pointer (some ⟨gx1, 0, none⟩) ∧ s12 = .int .i64 l1 ∧ s14 = .int .i64 0 ∧ w7.heap.size ≤ gx1 ∧ Row wx gx1 #[.int .i64 k1.kind, .int .i64 k1.len, .int .u64 k1.h, .int .u64 k1.l, .string ⟨k1.path.toArray⟩] 26 ∧ Row wx w.heap.size #[.int .i64 2, .int .i64 s.d0.kind, .int .i64 s.d0.side, .int .i64 s.d0.step, .int .i64 s.d1.kind, .int .i64 s.d1.side, .int .i64 s.d1.step] 36 ∧ Row wx (w.heap.size + 1) #[.int .i64 0, .int .i64 0, .int .i64 0, .int .i64 0, .int .u64 0, .int .u64 0, .string ⟨#[]⟩, .int .i64 0, .int .i64 0, .int .u64 0, .int .u64 0, .string ⟨#[]⟩] 40 ∧ Row wx wr.heap.size #[.string ⟨t.toArray⟩] 9 ∧ Row wx w2.heap.size #[.string ⟨a.toArray⟩, .string ⟨b.toArray⟩] 9 ∧ Row wx (w2.heap.size + 1) #[.int .i64 l0, .int .i64 0, .int .i64 k0.kind, .int .i64 k0.len, .int .u64 k0.h, .int .u64 k0.l, .string ⟨k0.path.toArray⟩, .int .i64 0, .int .i64 0, .int .u64 0, .int .u64 0, .string ⟨#[]⟩] 40 ∧ Row wx gx0 #[.int .i64 k0.kind, .int .i64 k0.len, .int .u64 k0.h, .int .u64 k0.l, .string ⟨k0.path.toArray⟩] 26 ∧ Below w7.heap.size w7 wx)
    case first =>
     refine wp_region_held_drew (S := (fun w' => w'.cell? ⟨w.heap.size, 4, none⟩ = some (Value.int .i64 s.d1.kind) ∧ w'.cell? ⟨w.heap.size, 5, none⟩ = some (Value.int .i64 s.d1.side) ∧ w'.cell? ⟨w.heap.size, 6, none⟩ = some (Value.int .i64 s.d1.step) ∧ w'.cell? ⟨w2.heap.size, 1, none⟩ = some (Value.string ⟨b.toArray⟩))) (by kernel_rfl) ?hSr5_ (fun hH => ?_)
     case hSr5_ => (exact ⟨c4, c5, c6, v1⟩)
     (clear c0 c1 c2 c3 c4 c5 c6 r0 r1 r2 r3 r4 r5 r6 r7 r8 r9 r10 r11 m0 v0 v1 q0 q1 q2 q3 q4 q5 q6 q7 q8 q9 q10 q11 x00 x01 x02 x03 x04; (replace Rc := Rc.drew); (replace Rr := Rr.drew); (replace Rm := Rm.drew); (replace Rv := Rv.drew); (replace Rq := Rq.drew); (replace Rx0 := Rx0.drew); (replace hb0 := hb0.drew); (generalize World.drew w7 = wq at *))
     refine tk 0 ⟨some 59, .move (.tmp 11), 3, _, _, _⟩ hH ?_
     refine tk 1 ⟨some 60, .fieldAddr 36 (.tmp 2) 1, 0, _, _, _⟩ hH ?_
     refine tk 2 ⟨some 61, .indexAddr 34 (.tmp 60) (.tmp 59), 0, _, _, _⟩ hH ?_
     refine tk 3 ⟨some 62, .load 23 (.tmp 61), 23, _, _, _⟩ hH ?_
     refine tk 4 ⟨some 63, .move (.tmp 9), 77, _, _, _⟩ hH ?_
     refine tk 5 ⟨some 64, .move (.tmp 11), 3, _, _, _⟩ hH ?_
     refine tk 6 ⟨some 65, .indexAddr 77 (.tmp 63) (.tmp 64), 0, _, _, _⟩ hH ?_
     refine tk 7 ⟨some 66, .load 9 (.tmp 65), 9, _, _, _⟩ hH ?_
     refine wpAnyH_ready (rs := [8, 13]) (by kernel_rfl) (by simp) ?_
     refine AllReadyH.cons (o := ⟨some 67, .call { callee := .value (.func 9), args := #[.tmp 62, .tmp 66], argTypes := #[23, 9] }, 28, _, _, _⟩) rfl (fun K hK => ?_) ?_
     ·(go_simp; (refine (HP1 _ (below_step hbW hb0)).mono ?_); (rintro e wz ⟨rfl, hb⟩); (replace Rc := Rc.later hb); (replace Rr := Rr.later hb); (replace Rm := Rm.later hb); (replace Rv := Rv.later hb); (replace Rq := Rq.later hb); (replace Rx0 := Rx0.later hb); (try replace Rx1 := Rx1.later hb); (replace hb0 := below_step hb0 hb); go_wp2_with fail)
      refine hK.out _ _ ?hSr5_9_8 fun _ => ?_
      case hSr5_9_8 => (exact kc hb (kc hb (kc hb (cl hb))) hH)
      clear hK K hH; rename_i hH
      rename World => wq
      (try simp only [Act.put, nz1, nz2, nz3])
      refine tk 9 ⟨some 58, .move (.tmp 67), 28, _, _, _⟩ hH ?_
      refine tk 10 ⟨some 68, .extract (.tmp 58) 0, 3, _, _, _⟩ hH ?_
      refine tk 11 ⟨some 69, .extract (.tmp 58) 1, 26, _, _, _⟩ hH ?_
      refine tk 12 ⟨some 70, .extract (.tmp 58) 2, 27, _, _, _⟩ hH ?_
      refine wpAnyH_ready (rs := [13]) (by kernel_rfl) (by simp) ?_
      refine AllReadyH.cons (o := ⟨some 13, .alloc 26, 0, _, _, _⟩) rfl (fun K hK => ?_) AllReadyH.nil
      (go_simp; (have mx1 := hb0.size); (have nx1_c := Rc.lt); (have nx1_r := Rr.lt); (have nx1_m := Rm.lt); (have nx1_v := Rv.lt); (have nx1_q := Rq.lt); (have nx1_x0 := Rx0.lt); (have Rx1 := Row.new wq #[.int .i64 0, .int .i64 0, .int .u64 0, .int .u64 0, .string ⟨#[]⟩] 26); (have hb : Below wq.heap.size wq (World.alloc wq (.cells #[.int .i64 0, .int .i64 0, .int .u64 0, .int .u64 0, .string ⟨#[]⟩] 26)) := (Below.refl _ _).alloc (Nat.le_refl _) _); (replace Rc := Rc.later hb); (replace Rr := Rr.later hb); (replace Rm := Rm.later hb); (replace Rv := Rv.later hb); (replace Rq := Rq.later hb); (replace Rx0 := Rx0.later hb); (replace hb0 := below_step hb0 hb); (have hSn := kc hb (kc hb (kc hb (cl hb))) hH); clear hb; generalize World.alloc wq (.cells #[.int .i64 0, .int .i64 0, .int .u64 0, .int .u64 0, .string ⟨#[]⟩] 26) = wz at *; generalize wq.heap.size = gx1 at *)
      refine hK.out _ _ ?hSr5_14_13 fun _ => ?_
      case hSr5_14_13 => (exact hSn)
      clear hK K hH; rename_i hH
      rename World => wq
      (try simp only [Act.put, nz1, nz2, nz3])
      refine tk 14 ⟨some 12, .assign (.tmp 68), 3, _, _, _⟩ hH ?_
      refine wpAnyH_ready (rs := [15]) (by kernel_rfl) (by simp) ?_
      refine AllReadyH.cons (o := ⟨none, .store 26 (.tmp 13) (.tmp 69), 0, _, _, _⟩) rfl (fun K hK => ?_) AllReadyH.nil
      ((rw [if_pos (by rfl)]); (with_reducible refine pst 26 (.tmp 13) (.tmp 69) ?_ gx1 0 #[.int .i64 k1.kind, .int .i64 k1.len, .int .u64 k1.h, .int .u64 k1.l, .string ⟨k1.path.toArray⟩] ?_ ?_ ?_ ?_ ?_ ?_); rfl; rfl; rfl; (exact Row.thereAt Rx1 0 _ (by simp)); (exact infoKe); (simp [Value.oneCell']); (rintro wz hwz); (have hHq := hH); (obtain ⟨c4, c5, c6, v1⟩ := hHq); (replace c4 := pcf hwz c4); (replace c5 := pcf hwz c5); (replace c6 := pcf hwz c6); (replace v1 := pcf hwz v1); (replace Rc := prf hwz Rc); (replace Rr := prf hwz Rr); (replace Rm := prf hwz Rm); (replace Rv := prf hwz Rv); (replace Rq := prf hwz Rq); (replace Rx0 := prf hwz Rx0); (replace hb0 := pbl hwz hb0); (replace Rx1 := psw hwz Rx1); clear hwz)
      refine hK.out _ _ ?hSr5_16_15 fun _ => ?_
      case hSr5_16_15 => (exact ⟨c4, c5, c6, v1⟩)
      clear hK K hH; rename_i hH
      rename World => wq
      (try simp only [Act.put, nz1, nz2, nz3])
      refine tk 16 ⟨some 14, .assign (.tmp 70), 27, _, _, _⟩ hH ?_
      refine wpAnyH_done (by kernel_rfl) ?_ _
      (go_wp2_with fail; go_meet; exact ⟨gx1, rfl, rfl, rfl, mx1, Rx1, Rc, Rr, Rm, Rv, Rq, Rx0, hb0⟩)
     refine AllReadyH.cons (o := ⟨some 13, .alloc 26, 0, _, _, _⟩) rfl (fun K hK => ?_) AllReadyH.nil
     ·(go_simp; (have mx1 := hb0.size); (have nx1_c := Rc.lt); (have nx1_r := Rr.lt); (have nx1_m := Rm.lt); (have nx1_v := Rv.lt); (have nx1_q := Rq.lt); (have nx1_x0 := Rx0.lt); (have Rx1 := Row.new wq #[.int .i64 0, .int .i64 0, .int .u64 0, .int .u64 0, .string ⟨#[]⟩] 26); (have hb : Below wq.heap.size wq (World.alloc wq (.cells #[.int .i64 0, .int .i64 0, .int .u64 0, .int .u64 0, .string ⟨#[]⟩] 26)) := (Below.refl _ _).alloc (Nat.le_refl _) _); (replace Rc := Rc.later hb); (replace Rr := Rr.later hb); (replace Rm := Rm.later hb); (replace Rv := Rv.later hb); (replace Rq := Rq.later hb); (replace Rx0 := Rx0.later hb); (replace hb0 := below_step hb0 hb); (have hSn := kc hb (kc hb (kc hb (cl hb))) hH); clear hb; generalize World.alloc wq (.cells #[.int .i64 0, .int .i64 0, .int .u64 0, .int .u64 0, .string ⟨#[]⟩] 26) = wz at *; generalize wq.heap.size = gx1 at *)
      refine hK.out _ _ ?hSr5_18_13 fun _ => ?_
      case hSr5_18_13 => (exact hSn)
      clear hK K hH; rename_i hH
      rename World => wq
      (try simp only [Act.put, nz1, nz2, nz3])
      refine wpAnyH_ready (rs := [8]) (by kernel_rfl) (by simp) ?_
      refine AllReadyH.cons (o := ⟨some 67, .call { callee := .value (.func 9), args := #[.tmp 62, .tmp 66], argTypes := #[23, 9] }, 28, _, _, _⟩) rfl (fun K hK => ?_) AllReadyH.nil
      (go_simp; (refine (HP1 _ (below_step hbW hb0)).mono ?_); (rintro e wz ⟨rfl, hb⟩); (replace Rc := Rc.later hb); (replace Rr := Rr.later hb); (replace Rm := Rm.later hb); (replace Rv := Rv.later hb); (replace Rq := Rq.later hb); (replace Rx0 := Rx0.later hb); (try replace Rx1 := Rx1.later hb); (replace hb0 := below_step hb0 hb); go_wp2_with fail)
      refine hK.out _ _ ?hSr5_19_8 fun _ => ?_
      case hSr5_19_8 => (exact kc hb (kc hb (kc hb (cl hb))) hH)
      clear hK K hH; rename_i hH
      rename World => wq
      (try simp only [Act.put, nz1, nz2, nz3])
      refine tk 9 ⟨some 58, .move (.tmp 67), 28, _, _, _⟩ hH ?_
      refine tk 10 ⟨some 68, .extract (.tmp 58) 0, 3, _, _, _⟩ hH ?_
      refine tk 11 ⟨some 69, .extract (.tmp 58) 1, 26, _, _, _⟩ hH ?_
      refine tk 12 ⟨some 70, .extract (.tmp 58) 2, 27, _, _, _⟩ hH ?_
      refine tk 14 ⟨some 12, .assign (.tmp 68), 3, _, _, _⟩ hH ?_
      refine wpAnyH_ready (rs := [15]) (by kernel_rfl) (by simp) ?_
      refine AllReadyH.cons (o := ⟨none, .store 26 (.tmp 13) (.tmp 69), 0, _, _, _⟩) rfl (fun K hK => ?_) AllReadyH.nil
      ((rw [if_pos (by rfl)]); (with_reducible refine pst 26 (.tmp 13) (.tmp 69) ?_ gx1 0 #[.int .i64 k1.kind, .int .i64 k1.len, .int .u64 k1.h, .int .u64 k1.l, .string ⟨k1.path.toArray⟩] ?_ ?_ ?_ ?_ ?_ ?_); rfl; rfl; rfl; (exact Row.thereAt Rx1 0 _ (by simp)); (exact infoKe); (simp [Value.oneCell']); (rintro wz hwz); (have hHq := hH); (obtain ⟨c4, c5, c6, v1⟩ := hHq); (replace c4 := pcf hwz c4); (replace c5 := pcf hwz c5); (replace c6 := pcf hwz c6); (replace v1 := pcf hwz v1); (replace Rc := prf hwz Rc); (replace Rr := prf hwz Rr); (replace Rm := prf hwz Rm); (replace Rv := prf hwz Rv); (replace Rq := prf hwz Rq); (replace Rx0 := prf hwz Rx0); (replace hb0 := pbl hwz hb0); (replace Rx1 := psw hwz Rx1); clear hwz)
      refine hK.out _ _ ?hSr5_25_15 fun _ => ?_
      case hSr5_25_15 => (exact ⟨c4, c5, c6, v1⟩)
      clear hK K hH; rename_i hH
      rename World => wq
      (try simp only [Act.put, nz1, nz2, nz3])
      refine tk 16 ⟨some 14, .assign (.tmp 70), 27, _, _, _⟩ hH ?_
      refine wpAnyH_done (by kernel_rfl) ?_ _
      (go_wp2_with fail; go_meet; exact ⟨gx1, rfl, rfl, rfl, mx1, Rx1, Rc, Rr, Rm, Rv, Rq, Rx0, hb0⟩)
    case rest =>
     clear c0 c1 c2 c3 c4 c5 c6 r0 r1 r2 r3 r4 r5 r6 r7 r8 r9 r10 r11 m0 v0 v1 q0 q1 q2 q3 q4 q5 q6 q7 q8 q9 q10 q11 x00 x01 x02 x03 x04 Rc Rr Rm Rv Rq Rx0 hb0
     obtain ⟨gx1, rfl, rfl, rfl, mx1, Rx1, Rc, Rr, Rm, Rv, Rq, Rx0, hb0⟩ := hcut
     rename World => w8
     have lc := Rc.lt
     have lr := Rr.lt
     have lm := Rm.lt
     have lv := Rv.lt
     have lq := Rq.lt
     have lx0 := Rx0.lt
     have lx1 := Rx1.lt
     (try clear c0 c1 c2 c3 c4 c5 c6); obtain ⟨c0, c1, c2, c3, c4, c5, c6⟩ := row7 Rc
     (try clear r0 r1 r2 r3 r4 r5 r6 r7 r8 r9 r10 r11); obtain ⟨r0, r1, r2, r3, r4, r5, r6, r7, r8, r9, r10, r11⟩ := row12 Rr
     replace m0 := (Rm.cell 0).trans (show _ = some (Value.string ⟨t.toArray⟩) from rfl)
     (try clear v0 v1); obtain ⟨v0, v1⟩ := row2 Rv
     (try clear q0 q1 q2 q3 q4 q5 q6 q7 q8 q9 q10 q11); obtain ⟨q0, q1, q2, q3, q4, q5, q6, q7, q8, q9, q10, q11⟩ := row12 Rq
     (try clear x00 x01 x02 x03 x04); obtain ⟨x00, x01, x02, x03, x04⟩ := row5 Rx0
     (try clear x10 x11 x12 x13 x14); obtain ⟨x10, x11, x12, x13, x14⟩ := row5 Rx1
     replace hb0 := below_step hbW hb0
     obtain ⟨qf0, qf1, qf2, qf3, qf4, qf5, qf6, qf7, qf8, qf9, qf10, qf11⟩ := fz12 Rq
     go_wp2_with fail
     obtain ⟨w9, hwk, hwn⟩ := pnm w8 (w2.heap.size + 1) 1 [.int .i64 l1]
     simp only [World.setCells] at hwk
     rw [← hwk]; clear hwk
     replace Rq : Row w9 (w2.heap.size + 1) #[.int .i64 l0, .int .i64 l1, .int .i64 k0.kind, .int .i64 k0.len, .int .u64 k0.h, .int .u64 k0.l, .string ⟨k0.path.toArray⟩, .int .i64 0, .int .i64 0, .int .u64 0, .int .u64 0, .string ⟨#[]⟩] 40 := psm hwn Rq (by simp [setL])
     replace Rc := prf hwn Rc
     replace Rr := prf hwn Rr
     replace Rm := prf hwn Rm
     replace Rv := prf hwn Rv
     replace Rx0 := prf hwn Rx0
     replace Rx1 := prf hwn Rx1
     replace hb0 := pbl hwn hb0
     clear hwn c0 c1 c2 c3 c4 c5 c6 r0 r1 r2 r3 r4 r5 r6 r7 r8 r9 r10 r11 m0 v0 v1 q0 q1 q2 q3 q4 q5 q6 q7 q8 q9 q10 q11 x00 x01 x02 x03 x04 x10 x11 x12 x13 x14
     (try clear qf0 qf1 qf2 qf3 qf4 qf5 qf6 qf7 qf8 qf9 qf10 qf11)
     (try clear c0 c1 c2 c3 c4 c5 c6); obtain ⟨c0, c1, c2, c3, c4, c5, c6⟩ := row7 Rc
     (try clear r0 r1 r2 r3 r4 r5 r6 r7 r8 r9 r10 r11); obtain ⟨r0, r1, r2, r3, r4, r5, r6, r7, r8, r9, r10, r11⟩ := row12 Rr
     replace m0 := (Rm.cell 0).trans (show _ = some (Value.string ⟨t.toArray⟩) from rfl)
     (try clear v0 v1); obtain ⟨v0, v1⟩ := row2 Rv
     (try clear q0 q1 q2 q3 q4 q5 q6 q7 q8 q9 q10 q11); obtain ⟨q0, q1, q2, q3, q4, q5, q6, q7, q8, q9, q10, q11⟩ := row12 Rq
     (try clear x00 x01 x02 x03 x04); obtain ⟨x00, x01, x02, x03, x04⟩ := row5 Rx0
     (try clear x10 x11 x12 x13 x14); obtain ⟨x10, x11, x12, x13, x14⟩ := row5 Rx1
     obtain ⟨w10, hwk, hwn⟩ := pnm w9 (w2.heap.size + 1) 7 [.int .i64 k1.kind, .int .i64 k1.len, .int .u64 k1.h, .int .u64 k1.l, .string ⟨k1.path.toArray⟩]
     simp only [World.setCells] at hwk
     rw [← hwk]; clear hwk
     replace Rq : Row w10 (w2.heap.size + 1) #[.int .i64 l0, .int .i64 l1, .int .i64 k0.kind, .int .i64 k0.len, .int .u64 k0.h, .int .u64 k0.l, .string ⟨k0.path.toArray⟩, .int .i64 k1.kind, .int .i64 k1.len, .int .u64 k1.h, .int .u64 k1.l, .string ⟨k1.path.toArray⟩] 40 := psm hwn Rq (by simp [setL])
     replace Rc := prf hwn Rc
     replace Rr := prf hwn Rr
     replace Rm := prf hwn Rm
     replace Rv := prf hwn Rv
     replace Rx0 := prf hwn Rx0
     replace Rx1 := prf hwn Rx1
     replace hb0 := pbl hwn hb0
     clear hwn c0 c1 c2 c3 c4 c5 c6 r0 r1 r2 r3 r4 r5 r6 r7 r8 r9 r10 r11 m0 v0 v1 q0 q1 q2 q3 q4 q5 q6 q7 q8 q9 q10 q11 x00 x01 x02 x03 x04 x10 x11 x12 x13 x14
     (try clear qf0 qf1 qf2 qf3 qf4 qf5 qf6 qf7 qf8 qf9 qf10 qf11)
     (try clear c0 c1 c2 c3 c4 c5 c6); obtain ⟨c0, c1, c2, c3, c4, c5, c6⟩ := row7 Rc
     (try clear r0 r1 r2 r3 r4 r5 r6 r7 r8 r9 r10 r11); obtain ⟨r0, r1, r2, r3, r4, r5, r6, r7, r8, r9, r10, r11⟩ := row12 Rr
     replace m0 := (Rm.cell 0).trans (show _ = some (Value.string ⟨t.toArray⟩) from rfl)
     (try clear v0 v1); obtain ⟨v0, v1⟩ := row2 Rv
     (try clear q0 q1 q2 q3 q4 q5 q6 q7 q8 q9 q10 q11); obtain ⟨q0, q1, q2, q3, q4, q5, q6, q7, q8, q9, q10, q11⟩ := row12 Rq
     (try clear x00 x01 x02 x03 x04); obtain ⟨x00, x01, x02, x03, x04⟩ := row5 Rx0
     (try clear x10 x11 x12 x13 x14); obtain ⟨x10, x11, x12, x13, x14⟩ := row5 Rx1
     rw [rounds_succ]
     obtain ⟨rf0, rf1, rf2, rf3, rf4, rf5, rf6, rf7, rf8, rf9, rf10, rf11⟩ := fz12 Rr
     go_wp2
     obtain ⟨w11, hwk, hwn⟩ := pnm w10 (w.heap.size + 1) 0 [.int .i64 l0, .int .i64 l1, .int .i64 k0.kind, .int .i64 k0.len, .int .u64 k0.h, .int .u64 k0.l, .string ⟨k0.path.toArray⟩, .int .i64 k1.kind, .int .i64 k1.len, .int .u64 k1.h, .int .u64 k1.l, .string ⟨k1.path.toArray⟩]
     simp only [World.setCells] at hwk
     rw [← hwk]; clear hwk
     replace Rr : Row w11 (w.heap.size + 1) #[.int .i64 l0, .int .i64 l1, .int .i64 k0.kind, .int .i64 k0.len, .int .u64 k0.h, .int .u64 k0.l, .string ⟨k0.path.toArray⟩, .int .i64 k1.kind, .int .i64 k1.len, .int .u64 k1.h, .int .u64 k1.l, .string ⟨k1.path.toArray⟩] 40 := psm hwn Rr (by simp [setL])
     replace Rc := prf hwn Rc
     replace Rm := prf hwn Rm
     replace Rv := prf hwn Rv
     replace Rq := prf hwn Rq
     replace Rx0 := prf hwn Rx0
     replace Rx1 := prf hwn Rx1
     replace hb0 := pbl hwn hb0
     clear hwn c0 c1 c2 c3 c4 c5 c6 r0 r1 r2 r3 r4 r5 r6 r7 r8 r9 r10 r11 m0 v0 v1 q0 q1 q2 q3 q4 q5 q6 q7 q8 q9 q10 q11 x00 x01 x02 x03 x04 x10 x11 x12 x13 x14
     (try clear rf0 rf1 rf2 rf3 rf4 rf5 rf6 rf7 rf8 rf9 rf10 rf11)
     (try clear c0 c1 c2 c3 c4 c5 c6); obtain ⟨c0, c1, c2, c3, c4, c5, c6⟩ := row7 Rc
     (try clear r0 r1 r2 r3 r4 r5 r6 r7 r8 r9 r10 r11); obtain ⟨r0, r1, r2, r3, r4, r5, r6, r7, r8, r9, r10, r11⟩ := row12 Rr
     replace m0 := (Rm.cell 0).trans (show _ = some (Value.string ⟨t.toArray⟩) from rfl)
     (try clear v0 v1); obtain ⟨v0, v1⟩ := row2 Rv
     (try clear q0 q1 q2 q3 q4 q5 q6 q7 q8 q9 q10 q11); obtain ⟨q0, q1, q2, q3, q4, q5, q6, q7, q8, q9, q10, q11⟩ := row12 Rq
     (try clear x00 x01 x02 x03 x04); obtain ⟨x00, x01, x02, x03, x04⟩ := row5 Rx0
     (try clear x10 x11 x12 x13 x14); obtain ⟨x10, x11, x12, x13, x14⟩ := row5 Rx1
     refine bodyPost_ret (v := .tuple #[.agg #[.int .i64 l0, .int .i64 l1, .int .i64 k0.kind, .int .i64 k0.len, .int .u64 k0.h, .int .u64 k0.l, .string ⟨k0.path.toArray⟩, .int .i64 k1.kind, .int .i64 k1.len, .int .u64 k1.h, .int .u64 k1.l, .string ⟨k1.path.toArray⟩], .int .i64 0]) (by simp [results, Tryz.results18, go_sem, r0, r1, r2, r3, r4, r5, r6, r7, r8, r9, r10, r11]) rfl ⟨rfl, hb0⟩
end Go.Proofs.YtboinifeemghaaaGreatDoor
