/- TR6: what the theorem needs of these texts. No conditions beyond those that are written. -/
import Derived.Test.YtboinifeemghaaaGreatDoorBJT9
set_option linter.unusedSimpArgs false
set_option linter.unusedVariables false
set_option maxHeartbeats 1600000
set_option maxRecDepth 100000
namespace Go.Proofs.YtboinifeemghaaaGreatDoor
open Go.RowKit
def cntT (t : List UInt8) (i : Nat) : Nat := (t.take i).count 62
def lastT (t : List UInt8) : Nat → Nat
 | 0 => 0
 | i + 1 => if t[i]? = some 62 then i else lastT t i
theorem cntT_le (t : List UInt8) (i : Nat) : cntT t i ≤ i := by
 unfold cntT
 have := List.count_le_length (a := (62 : UInt8)) (l := t.take i)
 rw [List.length_take] at this
 omega
theorem cntT_yes {t : List UInt8} {i : Nat} (h : t[i]? = some 62) : cntT t (i + 1) = cntT t i + 1 := by
 unfold cntT
 rw [List.take_add_one, h, List.count_append]; rfl
theorem cntT_no {t : List UInt8} {i : Nat} {c : UInt8} (h : t[i]? = some c) (hc : ¬ c = 62) : cntT t (i + 1) = cntT t i := by
 unfold cntT
 rw [List.take_add_one, h, List.count_append]
 simp only [Option.toList_some, List.count_cons, List.count_nil]
 rw [if_neg (by simpa using hc)]; omega
theorem lastT_yes {t : List UInt8} {i : Nat} (h : t[i]? = some 62) : lastT t (i + 1) = i := if_pos h
theorem lastT_no {t : List UInt8} {i : Nat} {c : UInt8} (h : t[i]? = some c) (hc : ¬ c = 62) : lastT t (i + 1) = lastT t i := if_neg (by rw [h]; intro e; cases e; exact hc rfl)
theorem lastT_at {a b : List UInt8} (hb : (62 : UInt8) ∉ b) : ∀ k : Nat, k ≤ b.length → lastT (a ++ 62 :: b) (a.length + 1 + k) = a.length
 | 0, _ => lastT_yes (by simp)
 | k + 1, h => by
  have e : (a ++ 62 :: b)[a.length + 1 + k]? = b[k]? := by
   rw [List.getElem?_append_right (by omega), show a.length + 1 + k - a.length = k + 1 by omega, List.getElem?_cons_succ]
  have hk : b[k]? = some b[k] := List.getElem?_eq_getElem (by omega)
  rw [show a.length + 1 + (k + 1) = (a.length + 1 + k) + 1 by omega, lastT_no (e.trans hk) (fun h2 => hb (h2 ▸ List.getElem_mem _))]
  exact lastT_at hb k (by omega)
theorem rps_bad (s : Sp) (t : ByteArray) (w : World)
  (HR : ∀ w', Below w.heap.size w w' → Calls Tryz.prog 50 #[sv s] w' fun e w'' => e = .returned (.bool false) ∧ Below w'.heap.size w' w'')
  : Calls Tryz.prog 18 #[sv s, .string t] w fun e w' => e = .returned (.tuple #[.agg #[.int .i64 0, .int .i64 0, .int .i64 0, .int .i64 0, .int .u64 0, .int .u64 0, .string ⟨#[]⟩, .int .i64 0, .int .i64 0, .int .u64 0, .int .u64 0, .string ⟨#[]⟩], .int .i64 1]) ∧ Below w.heap.size w w' := by
 unfold sv at *
 obtain ⟨Rc, Rr, hb0⟩ := two_rows w #[.int .i64 s.n, .int .i64 s.d0.kind, .int .i64 s.d0.side, .int .i64 s.d0.step, .int .i64 s.d1.kind, .int .i64 s.d1.side, .int .i64 s.d1.step] #[.int .i64 0, .int .i64 0, .int .i64 0, .int .i64 0, .int .u64 0, .int .u64 0, .string ⟨#[]⟩, .int .i64 0, .int .i64 0, .int .u64 0, .int .u64 0, .string ⟨#[]⟩] 36 40
 (try clear c0 c1 c2 c3 c4 c5 c6); obtain ⟨c0, c1, c2, c3, c4, c5, c6⟩ := row7 Rc
 (try clear r0 r1 r2 r3 r4 r5 r6 r7 r8 r9 r10 r11); obtain ⟨r0, r1, r2, r3, r4, r5, r6, r7, r8, r9, r10, r11⟩ := row12 Rr
 go_enter Tryz.func18, Tryz.ntmps18
 go_wp2_with fail
 refine (HR _ hb0).mono ?_
 rintro e w1 ⟨rfl, hb⟩
 replace Rc := Rc.later hb
 replace Rr := Rr.later hb
 replace hb0 := below_step hb0 hb
 clear hb
 have lc := Rc.lt
 have lr := Rr.lt
 (try clear c0 c1 c2 c3 c4 c5 c6); obtain ⟨c0, c1, c2, c3, c4, c5, c6⟩ := row7 Rc
 (try clear r0 r1 r2 r3 r4 r5 r6 r7 r8 r9 r10 r11); obtain ⟨r0, r1, r2, r3, r4, r5, r6, r7, r8, r9, r10, r11⟩ := row12 Rr
 obtain ⟨rf0, rf1, rf2, rf3, rf4, rf5, rf6, rf7, rf8, rf9, rf10, rf11⟩ := fz12 Rr
 go_wp2
 obtain ⟨w2, hwk, hwn⟩ := pnm w1 (w.heap.size + 1) 0 [.int .i64 0, .int .i64 0, .int .i64 0, .int .i64 0, .int .u64 0, .int .u64 0, .string ⟨#[]⟩, .int .i64 0, .int .i64 0, .int .u64 0, .int .u64 0, .string ⟨#[]⟩]
 simp only [World.setCells] at hwk
 rw [← hwk]; clear hwk
 replace Rr : Row w2 (w.heap.size + 1) #[.int .i64 0, .int .i64 0, .int .i64 0, .int .i64 0, .int .u64 0, .int .u64 0, .string ⟨#[]⟩, .int .i64 0, .int .i64 0, .int .u64 0, .int .u64 0, .string ⟨#[]⟩] 40 := psm hwn Rr (by simp [setL])
 replace Rc := prf hwn Rc
 replace hb0 := pbl hwn hb0
 clear hwn c0 c1 c2 c3 c4 c5 c6 r0 r1 r2 r3 r4 r5 r6 r7 r8 r9 r10 r11
 (try clear rf0 rf1 rf2 rf3 rf4 rf5 rf6 rf7 rf8 rf9 rf10 rf11)
 (try clear c0 c1 c2 c3 c4 c5 c6); obtain ⟨c0, c1, c2, c3, c4, c5, c6⟩ := row7 Rc
 (try clear r0 r1 r2 r3 r4 r5 r6 r7 r8 r9 r10 r11); obtain ⟨r0, r1, r2, r3, r4, r5, r6, r7, r8, r9, r10, r11⟩ := row12 Rr
 refine bodyPost_ret (v := .tuple #[.agg #[.int .i64 0, .int .i64 0, .int .i64 0, .int .i64 0, .int .u64 0, .int .u64 0, .string ⟨#[]⟩, .int .i64 0, .int .i64 0, .int .u64 0, .int .u64 0, .string ⟨#[]⟩], .int .i64 1]) (by simp [results, Tryz.results18, go_sem, r0, r1, r2, r3, r4, r5, r6, r7, r8, r9, r10, r11]) rfl ⟨rfl, hb0⟩
theorem rps_no1 (s : Sp) (t : List UInt8) (hl : t.length ≤ 2000000) (cn : Int) (hc : ¬ cn = 0) (w : World)
  (HT : ((cntT t t.length : Nat) : Int) = cn)
  (HR : ∀ w', Below w.heap.size w w' → Calls Tryz.prog 50 #[.agg #[.int .i64 1, .int .i64 s.d0.kind, .int .i64 s.d0.side, .int .i64 s.d0.step, .int .i64 s.d1.kind, .int .i64 s.d1.side, .int .i64 s.d1.step]] w' fun e w'' => e = .returned (.bool true) ∧ Below w'.heap.size w' w'')
  : Calls Tryz.prog 18 #[.agg #[.int .i64 1, .int .i64 s.d0.kind, .int .i64 s.d0.side, .int .i64 s.d0.step, .int .i64 s.d1.kind, .int .i64 s.d1.side, .int .i64 s.d1.step], .string ⟨t.toArray⟩] w fun e w' => e = .returned (.tuple #[.agg #[.int .i64 0, .int .i64 0, .int .i64 0, .int .i64 0, .int .u64 0, .int .u64 0, .string ⟨#[]⟩, .int .i64 0, .int .i64 0, .int .u64 0, .int .u64 0, .string ⟨#[]⟩], .int .i64 3]) ∧ Below w.heap.size w w' := by
 have hw0 : IntKind.i64.wrap 0 = 0 := by decide
 have hcn : (cn != IntKind.i64.wrap 0) = true := by rw [hw0]; simpa using hc
 have hcn2 : (cn != 0) = true := by simpa using hc
 clear hw0
 obtain ⟨Rc, Rr, hb0⟩ := two_rows w #[.int .i64 1, .int .i64 s.d0.kind, .int .i64 s.d0.side, .int .i64 s.d0.step, .int .i64 s.d1.kind, .int .i64 s.d1.side, .int .i64 s.d1.step] #[.int .i64 0, .int .i64 0, .int .i64 0, .int .i64 0, .int .u64 0, .int .u64 0, .string ⟨#[]⟩, .int .i64 0, .int .i64 0, .int .u64 0, .int .u64 0, .string ⟨#[]⟩] 36 40
 (try clear c0 c1 c2 c3 c4 c5 c6); obtain ⟨c0, c1, c2, c3, c4, c5, c6⟩ := row7 Rc
 (try clear r0 r1 r2 r3 r4 r5 r6 r7 r8 r9 r10 r11); obtain ⟨r0, r1, r2, r3, r4, r5, r6, r7, r8, r9, r10, r11⟩ := row12 Rr
 go_enter Tryz.func18, Tryz.ntmps18
 go_wp2_with fail
 refine (HR _ hb0).mono ?_
 rintro e w1 ⟨rfl, hb⟩
 replace Rc := Rc.later hb
 replace Rr := Rr.later hb
 replace hb0 := below_step hb0 hb
 clear hb
 have lc := Rc.lt
 have lr := Rr.lt
 (try clear c0 c1 c2 c3 c4 c5 c6); obtain ⟨c0, c1, c2, c3, c4, c5, c6⟩ := row7 Rc
 (try clear r0 r1 r2 r3 r4 r5 r6 r7 r8 r9 r10 r11); obtain ⟨r0, r1, r2, r3, r4, r5, r6, r7, r8, r9, r10, r11⟩ := row12 Rr
 have hsz := bsz t
 go_wp2_with fail
 go_loopw [6, 7, 8] (fun x y z wr => ∃ i : Nat, i ≤ t.length ∧ x = .int .i64 (cntT t i) ∧ y = .int .i64 (lastT t i) ∧ z = .int .i64 i ∧ wr = w1) (fun _ _ z _ => t.length - (intOf z).toNat)
 case atStart => exact ⟨0, by omega, rfl, rfl, rfl, rfl⟩
 case round =>
  obtain ⟨i, hi, hx, hy, rfl, rfl⟩ := hrel
  by_cases hlt : i < t.length
  ·obtain ⟨c, hlj⟩ : ∃ c, t[i]? = some c := ⟨t[i], List.getElem?_eq_getElem hlt⟩
   have hsp : i < (⟨t.toArray⟩ : ByteArray).size := by rw [hsz]; exact hlt
   have hch : (⟨t.toArray⟩ : ByteArray)[i]'hsp = c := by
    have := (List.getElem?_eq_some_iff.1 hlj).2
    exact this
   have hcl := cntT_le t i
   subst hx hy
   have hltn : (i : Int) < t.length := by omega
   by_cases h62 : c = 62
   ·subst h62
    have ec := cntT_yes hlj
    have el := lastT_yes hlj
    clear hlj
    go_wp2_with fail
    refine ⟨⟨i + 1, by omega, ?_, ?_, by congr 1 <;> omega, by first | rfl | trivial⟩, by simp [intOf] <;> omega⟩
    ·rw [ec]; congr 1 <;> omega
    ·rw [el]
   ·have n62 : ¬ (c.toNat : Int) = 62 := fun e => h62 (UInt8.toNat.inj (by rw [show (62 : UInt8).toNat = 62 from rfl]; omega))
    have e62 : ((c.toNat : Int) == 62) = false := by simpa using n62
    have ec := cntT_no hlj h62
    have el := lastT_no hlj h62
    clear hlj
    go_wp2_with fail
    refine ⟨⟨i + 1, by omega, ?_, ?_, by congr 1 <;> omega, by first | rfl | trivial⟩, by simp [intOf] <;> omega⟩
    ·rw [ec]
    ·rw [el]
  ·have hit : i = t.length := by omega
   have hltn : ¬ (i : Int) < t.length := by omega
   rw [hit] at hx
   rw [HT] at hx
   subst hx
   subst hy
   obtain ⟨rf0, rf1, rf2, rf3, rf4, rf5, rf6, rf7, rf8, rf9, rf10, rf11⟩ := fz12 Rr
   go_wp2
   obtain ⟨w2, hwk, hwn⟩ := pnm wr (w.heap.size + 1) 0 [.int .i64 0, .int .i64 0, .int .i64 0, .int .i64 0, .int .u64 0, .int .u64 0, .string ⟨#[]⟩, .int .i64 0, .int .i64 0, .int .u64 0, .int .u64 0, .string ⟨#[]⟩]
   simp only [World.setCells] at hwk
   rw [← hwk]; clear hwk
   replace Rr : Row w2 (w.heap.size + 1) #[.int .i64 0, .int .i64 0, .int .i64 0, .int .i64 0, .int .u64 0, .int .u64 0, .string ⟨#[]⟩, .int .i64 0, .int .i64 0, .int .u64 0, .int .u64 0, .string ⟨#[]⟩] 40 := psm hwn Rr (by simp [setL])
   replace Rc := prf hwn Rc
   replace hb0 := pbl hwn hb0
   clear hwn c0 c1 c2 c3 c4 c5 c6 r0 r1 r2 r3 r4 r5 r6 r7 r8 r9 r10 r11
   (try clear rf0 rf1 rf2 rf3 rf4 rf5 rf6 rf7 rf8 rf9 rf10 rf11)
   (try clear c0 c1 c2 c3 c4 c5 c6); obtain ⟨c0, c1, c2, c3, c4, c5, c6⟩ := row7 Rc
   (try clear r0 r1 r2 r3 r4 r5 r6 r7 r8 r9 r10 r11); obtain ⟨r0, r1, r2, r3, r4, r5, r6, r7, r8, r9, r10, r11⟩ := row12 Rr
   refine bodyPost_ret (v := .tuple #[.agg #[.int .i64 0, .int .i64 0, .int .i64 0, .int .i64 0, .int .u64 0, .int .u64 0, .string ⟨#[]⟩, .int .i64 0, .int .i64 0, .int .u64 0, .int .u64 0, .string ⟨#[]⟩], .int .i64 3]) (by simp [results, Tryz.results18, go_sem, r0, r1, r2, r3, r4, r5, r6, r7, r8, r9, r10, r11]) rfl ⟨rfl, hb0⟩
theorem rps_1e (s : Sp) (t : List UInt8) (hl : t.length ≤ 2000000) (l0 : Int) (k0 : Ke) (er : Int) (he : ¬ er = 0) (w : World)
  (HT : ((cntT t t.length : Nat) : Int) = 0)
  (HR : ∀ w', Below w.heap.size w w' → Calls Tryz.prog 50 #[.agg #[.int .i64 1, .int .i64 s.d0.kind, .int .i64 s.d0.side, .int .i64 s.d0.step, .int .i64 s.d1.kind, .int .i64 s.d1.side, .int .i64 s.d1.step]] w' fun e w'' => e = .returned (.bool true) ∧ Below w'.heap.size w' w'')
  (HP0 : ∀ w', Below w.heap.size w w' → Calls Tryz.prog 9 #[.agg #[.int .i64 s.d0.kind, .int .i64 s.d0.side, .int .i64 s.d0.step], .string ⟨t.toArray⟩] w' fun e w'' => e = .returned (.tuple #[.int .i64 l0, kv k0, .int .i64 er]) ∧ Below w'.heap.size w' w'')
  : Calls Tryz.prog 18 #[.agg #[.int .i64 1, .int .i64 s.d0.kind, .int .i64 s.d0.side, .int .i64 s.d0.step, .int .i64 s.d1.kind, .int .i64 s.d1.side, .int .i64 s.d1.step], .string ⟨t.toArray⟩] w fun e w' => e = .returned (.tuple #[.agg #[.int .i64 0, .int .i64 0, .int .i64 0, .int .i64 0, .int .u64 0, .int .u64 0, .string ⟨#[]⟩, .int .i64 0, .int .i64 0, .int .u64 0, .int .u64 0, .string ⟨#[]⟩], .int .i64 er]) ∧ Below w.heap.size w w' := by
 have heb : (er == 0) = false := by simpa using he
 have hen : (er != 0) = true := by simpa using he
 have hcz : ((0 : Int) != IntKind.i64.wrap 0) = false := by decide
 unfold kv at *
 obtain ⟨Rc, Rr, hb0⟩ := two_rows w #[.int .i64 1, .int .i64 s.d0.kind, .int .i64 s.d0.side, .int .i64 s.d0.step, .int .i64 s.d1.kind, .int .i64 s.d1.side, .int .i64 s.d1.step] #[.int .i64 0, .int .i64 0, .int .i64 0, .int .i64 0, .int .u64 0, .int .u64 0, .string ⟨#[]⟩, .int .i64 0, .int .i64 0, .int .u64 0, .int .u64 0, .string ⟨#[]⟩] 36 40
 (try clear c0 c1 c2 c3 c4 c5 c6); obtain ⟨c0, c1, c2, c3, c4, c5, c6⟩ := row7 Rc
 (try clear r0 r1 r2 r3 r4 r5 r6 r7 r8 r9 r10 r11); obtain ⟨r0, r1, r2, r3, r4, r5, r6, r7, r8, r9, r10, r11⟩ := row12 Rr
 go_enter Tryz.func18, Tryz.ntmps18
 go_wp2_with fail
 refine (HR _ hb0).mono ?_
 rintro e w1 ⟨rfl, hb⟩
 replace Rc := Rc.later hb
 replace Rr := Rr.later hb
 replace hb0 := below_step hb0 hb
 clear hb
 have lc := Rc.lt
 have lr := Rr.lt
 (try clear c0 c1 c2 c3 c4 c5 c6); obtain ⟨c0, c1, c2, c3, c4, c5, c6⟩ := row7 Rc
 (try clear r0 r1 r2 r3 r4 r5 r6 r7 r8 r9 r10 r11); obtain ⟨r0, r1, r2, r3, r4, r5, r6, r7, r8, r9, r10, r11⟩ := row12 Rr
 have hsz := bsz t
 go_wp2_with fail
 go_loopw [6, 7, 8] (fun x y z wr => ∃ i : Nat, i ≤ t.length ∧ x = .int .i64 (cntT t i) ∧ y = .int .i64 (lastT t i) ∧ z = .int .i64 i ∧ wr = w1) (fun _ _ z _ => t.length - (intOf z).toNat)
 case atStart => exact ⟨0, by omega, rfl, rfl, rfl, rfl⟩
 case round =>
  obtain ⟨i, hi, hx, hy, rfl, rfl⟩ := hrel
  by_cases hlt : i < t.length
  ·obtain ⟨c, hlj⟩ : ∃ c, t[i]? = some c := ⟨t[i], List.getElem?_eq_getElem hlt⟩
   have hsp : i < (⟨t.toArray⟩ : ByteArray).size := by rw [hsz]; exact hlt
   have hch : (⟨t.toArray⟩ : ByteArray)[i]'hsp = c := by
    have := (List.getElem?_eq_some_iff.1 hlj).2
    exact this
   have hcl := cntT_le t i
   subst hx hy
   have hltn : (i : Int) < t.length := by omega
   by_cases h62 : c = 62
   ·subst h62
    have ec := cntT_yes hlj
    have el := lastT_yes hlj
    clear hlj
    go_wp2_with fail
    refine ⟨⟨i + 1, by omega, ?_, ?_, by congr 1 <;> omega, by first | rfl | trivial⟩, by simp [intOf] <;> omega⟩
    ·rw [ec]; congr 1 <;> omega
    ·rw [el]
   ·have n62 : ¬ (c.toNat : Int) = 62 := fun e => h62 (UInt8.toNat.inj (by rw [show (62 : UInt8).toNat = 62 from rfl]; omega))
    have e62 : ((c.toNat : Int) == 62) = false := by simpa using n62
    have ec := cntT_no hlj h62
    have el := lastT_no hlj h62
    clear hlj
    go_wp2_with fail
    refine ⟨⟨i + 1, by omega, ?_, ?_, by congr 1 <;> omega, by first | rfl | trivial⟩, by simp [intOf] <;> omega⟩
    ·rw [ec]
    ·rw [el]
  ·have hit : i = t.length := by omega
   have hltn : ¬ (i : Int) < t.length := by omega
   rw [hit] at hx
   rw [HT] at hx
   subst hx
   subst hy
   go_wp2_with fail
   have nvc := Rc.lt
   have nvr := Rr.lt
   replace Rc := Rc.alloc (.cells #[.string ⟨t.toArray⟩] 9)
   replace Rr := Rr.alloc (.cells #[.string ⟨t.toArray⟩] 9)
   have Rv := Row.new wr #[Value.string ⟨t.toArray⟩] 9
   have mv := hb0.size
   replace hb0 := hb0.alloc hb0.size (.cells #[.string ⟨t.toArray⟩] 9)
   (try clear c0 c1 c2 c3 c4 c5 c6); obtain ⟨c0, c1, c2, c3, c4, c5, c6⟩ := row7 Rc
   (try clear r0 r1 r2 r3 r4 r5 r6 r7 r8 r9 r10 r11); obtain ⟨r0, r1, r2, r3, r4, r5, r6, r7, r8, r9, r10, r11⟩ := row12 Rr
   replace v0 := (Rv.cell 0).trans (show _ = some (Value.string ⟨t.toArray⟩) from rfl)
   replace Rc := Rc.alloc (.cells #[.int .i64 0, .int .i64 0, .int .i64 0, .int .i64 0, .int .u64 0, .int .u64 0, .string ⟨#[]⟩, .int .i64 0, .int .i64 0, .int .u64 0, .int .u64 0, .string ⟨#[]⟩] 40)
   replace Rr := Rr.alloc (.cells #[.int .i64 0, .int .i64 0, .int .i64 0, .int .i64 0, .int .u64 0, .int .u64 0, .string ⟨#[]⟩, .int .i64 0, .int .i64 0, .int .u64 0, .int .u64 0, .string ⟨#[]⟩] 40)
   replace Rv := Rv.alloc (.cells #[.int .i64 0, .int .i64 0, .int .i64 0, .int .i64 0, .int .u64 0, .int .u64 0, .string ⟨#[]⟩, .int .i64 0, .int .i64 0, .int .u64 0, .int .u64 0, .string ⟨#[]⟩] 40)
   have Rq := Row.new (World.alloc wr (.cells #[.string ⟨t.toArray⟩] 9)) #[Value.int .i64 0, Value.int .i64 0, Value.int .i64 0, Value.int .i64 0, Value.int .u64 0, Value.int .u64 0, Value.string ⟨#[]⟩, Value.int .i64 0, Value.int .i64 0, Value.int .u64 0, Value.int .u64 0, Value.string ⟨#[]⟩] 40
   simp only [World.size_alloc] at Rq
   have mq := hb0.size
   replace hb0 := hb0.alloc hb0.size (.cells #[.int .i64 0, .int .i64 0, .int .i64 0, .int .i64 0, .int .u64 0, .int .u64 0, .string ⟨#[]⟩, .int .i64 0, .int .i64 0, .int .u64 0, .int .u64 0, .string ⟨#[]⟩] 40)
   (try clear c0 c1 c2 c3 c4 c5 c6); obtain ⟨c0, c1, c2, c3, c4, c5, c6⟩ := row7 Rc
   (try clear r0 r1 r2 r3 r4 r5 r6 r7 r8 r9 r10 r11); obtain ⟨r0, r1, r2, r3, r4, r5, r6, r7, r8, r9, r10, r11⟩ := row12 Rr
   replace v0 := (Rv.cell 0).trans (show _ = some (Value.string ⟨t.toArray⟩) from rfl)
   (try clear q0 q1 q2 q3 q4 q5 q6 q7 q8 q9 q10 q11); obtain ⟨q0, q1, q2, q3, q4, q5, q6, q7, q8, q9, q10, q11⟩ := row12 Rq
   refine wp_loop_rounds 3 ?_
   rw [rounds_succ]
   go_wp2_with fail
   generalize (World.alloc (World.alloc wr (.cells #[.string ⟨t.toArray⟩] 9)) (.cells #[.int .i64 0, .int .i64 0, .int .i64 0, .int .i64 0, .int .u64 0, .int .u64 0, .string ⟨#[]⟩, .int .i64 0, .int .i64 0, .int .u64 0, .int .u64 0, .string ⟨#[]⟩] 40)) = w2 at *
   have hbW := hb0
   replace hb0 := Below.refl (Array.size (World.heap w2)) w2
   have lwc := Rc.lt
   have lwr := Rr.lt
   have lwv := Rv.lt
   have lwq := Rq.lt
   go_cut [13, 12, 14] (fun s13 s12 s14 wx => ∃ gx0 : Nat, s13 = .pointer (some ⟨gx0, 0, none⟩) ∧ s12 = .int .i64 l0 ∧ s14 = .int .i64 er ∧ w2.heap.size ≤ gx0 ∧ Row wx gx0 #[.int .i64 k0.kind, .int .i64 k0.len, .int .u64 k0.h, .int .u64 k0.l, .string ⟨k0.path.toArray⟩] 26 ∧ Row wx w.heap.size #[.int .i64 1, .int .i64 s.d0.kind, .int .i64 s.d0.side, .int .i64 s.d0.step, .int .i64 s.d1.kind, .int .i64 s.d1.side, .int .i64 s.d1.step] 36 ∧ Row wx (w.heap.size + 1) #[.int .i64 0, .int .i64 0, .int .i64 0, .int .i64 0, .int .u64 0, .int .u64 0, .string ⟨#[]⟩, .int .i64 0, .int .i64 0, .int .u64 0, .int .u64 0, .string ⟨#[]⟩] 40 ∧ Row wx wr.heap.size #[.string ⟨t.toArray⟩] 9 ∧ Row wx (wr.heap.size + 1) #[.int .i64 0, .int .i64 0, .int .i64 0, .int .i64 0, .int .u64 0, .int .u64 0, .string ⟨#[]⟩, .int .i64 0, .int .i64 0, .int .u64 0, .int .u64 0, .string ⟨#[]⟩] 40 ∧ Below w2.heap.size w2 wx)
   case first =>
    refine wp_region_held_drew (S := (fun w' => w'.cell? ⟨w.heap.size, 1, none⟩ = some (Value.int .i64 s.d0.kind) ∧ w'.cell? ⟨w.heap.size, 2, none⟩ = some (Value.int .i64 s.d0.side) ∧ w'.cell? ⟨w.heap.size, 3, none⟩ = some (Value.int .i64 s.d0.step) ∧ w'.cell? ⟨wr.heap.size, 0, none⟩ = some (Value.string ⟨t.toArray⟩))) (by kernel_rfl) ?hSr1_ (fun hH => ?_)
    case hSr1_ => (exact ⟨c1, c2, c3, v0⟩)
    (clear c0 c1 c2 c3 c4 c5 c6 r0 r1 r2 r3 r4 r5 r6 r7 r8 r9 r10 r11 v0 q0 q1 q2 q3 q4 q5 q6 q7 q8 q9 q10 q11; (replace Rc := Rc.drew); (replace Rr := Rr.drew); (replace Rv := Rv.drew); (replace Rq := Rq.drew); (replace hb0 := hb0.drew); (generalize World.drew w2 = wq at *))
    refine tk 0 ⟨some 59, .move (.tmp 11), 3, _, _, _⟩ hH ?_
    refine tk 1 ⟨some 60, .fieldAddr 36 (.tmp 2) 1, 0, _, _, _⟩ hH ?_
    refine tk 2 ⟨some 61, .indexAddr 34 (.tmp 60) (.tmp 59), 0, _, _, _⟩ hH ?_
    refine tk 3 ⟨some 62, .load 23 (.tmp 61), 23, _, _, _⟩ hH ?_
    refine tk 4 ⟨some 63, .move (.tmp 9), 77, _, _, _⟩ hH ?_
    refine tk 5 ⟨some 64, .move (.tmp 11), 3, _, _, _⟩ hH ?_
    refine tk 6 ⟨some 65, .indexAddr 77 (.tmp 63) (.tmp 64), 0, _, _, _⟩ hH ?_
    refine tk 7 ⟨some 66, .load 9 (.tmp 65), 9, _, _, _⟩ hH ?_
    refine wpAnyH_ready (rs := [8, 13]) (by kernel_rfl) (by simp) ?_
    refine AllReadyH.cons (o := ⟨some 67, .call { callee := .value (.func 9), args := #[.tmp 62, .tmp 66], argTypes := #[23, 9] }, 28, _, _, _⟩) rfl (fun K hK => ?_) ?_
    ·(go_simp; (refine (HP0 _ (below_step hbW hb0)).mono ?_); (rintro e wz ⟨rfl, hb⟩); (replace Rc := Rc.later hb); (replace Rr := Rr.later hb); (replace Rv := Rv.later hb); (replace Rq := Rq.later hb); (try replace Rx0 := Rx0.later hb); (replace hb0 := below_step hb0 hb); go_wp2_with fail)
     refine hK.out _ _ ?hSr1_9_8 fun _ => ?_
     case hSr1_9_8 => (exact kc hb (kc hb (kc hb (cl hb))) hH)
     clear hK K hH; rename_i hH
     rename World => wq
     (try simp only [Act.put, nz1, nz2, nz3])
     refine tk 9 ⟨some 58, .move (.tmp 67), 28, _, _, _⟩ hH ?_
     refine tk 10 ⟨some 68, .extract (.tmp 58) 0, 3, _, _, _⟩ hH ?_
     refine tk 11 ⟨some 69, .extract (.tmp 58) 1, 26, _, _, _⟩ hH ?_
     refine tk 12 ⟨some 70, .extract (.tmp 58) 2, 27, _, _, _⟩ hH ?_
     refine wpAnyH_ready (rs := [13]) (by kernel_rfl) (by simp) ?_
     refine AllReadyH.cons (o := ⟨some 13, .alloc 26, 0, _, _, _⟩) rfl (fun K hK => ?_) AllReadyH.nil
     (go_simp; (have mx0 := hb0.size); (have nx0_c := Rc.lt); (have nx0_r := Rr.lt); (have nx0_v := Rv.lt); (have nx0_q := Rq.lt); (have Rx0 := Row.new wq #[.int .i64 0, .int .i64 0, .int .u64 0, .int .u64 0, .string ⟨#[]⟩] 26); (have hb : Below wq.heap.size wq (World.alloc wq (.cells #[.int .i64 0, .int .i64 0, .int .u64 0, .int .u64 0, .string ⟨#[]⟩] 26)) := (Below.refl _ _).alloc (Nat.le_refl _) _); (replace Rc := Rc.later hb); (replace Rr := Rr.later hb); (replace Rv := Rv.later hb); (replace Rq := Rq.later hb); (replace hb0 := below_step hb0 hb); (have hSn := kc hb (kc hb (kc hb (cl hb))) hH); clear hb; generalize World.alloc wq (.cells #[.int .i64 0, .int .i64 0, .int .u64 0, .int .u64 0, .string ⟨#[]⟩] 26) = wz at *; generalize wq.heap.size = gx0 at *)
     refine hK.out _ _ ?hSr1_14_13 fun _ => ?_
     case hSr1_14_13 => (exact hSn)
     clear hK K hH; rename_i hH
     rename World => wq
     (try simp only [Act.put, nz1, nz2, nz3])
     refine tk 14 ⟨some 12, .assign (.tmp 68), 3, _, _, _⟩ hH ?_
     refine wpAnyH_ready (rs := [15]) (by kernel_rfl) (by simp) ?_
     refine AllReadyH.cons (o := ⟨none, .store 26 (.tmp 13) (.tmp 69), 0, _, _, _⟩) rfl (fun K hK => ?_) AllReadyH.nil
     ((rw [if_pos (by rfl)]); (with_reducible refine pst 26 (.tmp 13) (.tmp 69) ?_ gx0 0 #[.int .i64 k0.kind, .int .i64 k0.len, .int .u64 k0.h, .int .u64 k0.l, .string ⟨k0.path.toArray⟩] ?_ ?_ ?_ ?_ ?_ ?_); rfl; rfl; rfl; (exact Row.thereAt Rx0 0 _ (by simp)); (exact infoKe); (simp [Value.oneCell']); (rintro wz hwz); (have hHq := hH); (obtain ⟨c1, c2, c3, v0⟩ := hHq); (replace c1 := pcf hwz c1); (replace c2 := pcf hwz c2); (replace c3 := pcf hwz c3); (replace v0 := pcf hwz v0); (replace Rc := prf hwz Rc); (replace Rr := prf hwz Rr); (replace Rv := prf hwz Rv); (replace Rq := prf hwz Rq); (replace hb0 := pbl hwz hb0); (replace Rx0 := psw hwz Rx0); clear hwz)
     refine hK.out _ _ ?hSr1_16_15 fun _ => ?_
     case hSr1_16_15 => (exact ⟨c1, c2, c3, v0⟩)
     clear hK K hH; rename_i hH
     rename World => wq
     (try simp only [Act.put, nz1, nz2, nz3])
     refine tk 16 ⟨some 14, .assign (.tmp 70), 27, _, _, _⟩ hH ?_
     refine wpAnyH_done (by kernel_rfl) ?_ _
     (go_wp2_with fail; go_meet; exact ⟨gx0, rfl, rfl, rfl, mx0, Rx0, Rc, Rr, Rv, Rq, hb0⟩)
    refine AllReadyH.cons (o := ⟨some 13, .alloc 26, 0, _, _, _⟩) rfl (fun K hK => ?_) AllReadyH.nil
    ·(go_simp; (have mx0 := hb0.size); (have nx0_c := Rc.lt); (have nx0_r := Rr.lt); (have nx0_v := Rv.lt); (have nx0_q := Rq.lt); (have Rx0 := Row.new wq #[.int .i64 0, .int .i64 0, .int .u64 0, .int .u64 0, .string ⟨#[]⟩] 26); (have hb : Below wq.heap.size wq (World.alloc wq (.cells #[.int .i64 0, .int .i64 0, .int .u64 0, .int .u64 0, .string ⟨#[]⟩] 26)) := (Below.refl _ _).alloc (Nat.le_refl _) _); (replace Rc := Rc.later hb); (replace Rr := Rr.later hb); (replace Rv := Rv.later hb); (replace Rq := Rq.later hb); (replace hb0 := below_step hb0 hb); (have hSn := kc hb (kc hb (kc hb (cl hb))) hH); clear hb; generalize World.alloc wq (.cells #[.int .i64 0, .int .i64 0, .int .u64 0, .int .u64 0, .string ⟨#[]⟩] 26) = wz at *; generalize wq.heap.size = gx0 at *)
     refine hK.out _ _ ?hSr1_18_13 fun _ => ?_
     case hSr1_18_13 => (exact hSn)
     clear hK K hH; rename_i hH
     rename World => wq
     (try simp only [Act.put, nz1, nz2, nz3])
     refine wpAnyH_ready (rs := [8]) (by kernel_rfl) (by simp) ?_
     refine AllReadyH.cons (o := ⟨some 67, .call { callee := .value (.func 9), args := #[.tmp 62, .tmp 66], argTypes := #[23, 9] }, 28, _, _, _⟩) rfl (fun K hK => ?_) AllReadyH.nil
     (go_simp; (refine (HP0 _ (below_step hbW hb0)).mono ?_); (rintro e wz ⟨rfl, hb⟩); (replace Rc := Rc.later hb); (replace Rr := Rr.later hb); (replace Rv := Rv.later hb); (replace Rq := Rq.later hb); (try replace Rx0 := Rx0.later hb); (replace hb0 := below_step hb0 hb); go_wp2_with fail)
     refine hK.out _ _ ?hSr1_19_8 fun _ => ?_
     case hSr1_19_8 => (exact kc hb (kc hb (kc hb (cl hb))) hH)
     clear hK K hH; rename_i hH
     rename World => wq
     (try simp only [Act.put, nz1, nz2, nz3])
     refine tk 9 ⟨some 58, .move (.tmp 67), 28, _, _, _⟩ hH ?_
     refine tk 10 ⟨some 68, .extract (.tmp 58) 0, 3, _, _, _⟩ hH ?_
     refine tk 11 ⟨some 69, .extract (.tmp 58) 1, 26, _, _, _⟩ hH ?_
     refine tk 12 ⟨some 70, .extract (.tmp 58) 2, 27, _, _, _⟩ hH ?_
     refine tk 14 ⟨some 12, .assign (.tmp 68), 3, _, _, _⟩ hH ?_
     refine wpAnyH_ready (rs := [15]) (by kernel_rfl) (by simp) ?_
     refine AllReadyH.cons (o := ⟨none, .store 26 (.tmp 13) (.tmp 69), 0, _, _, _⟩) rfl (fun K hK => ?_) AllReadyH.nil
     ((rw [if_pos (by rfl)]); (with_reducible refine pst 26 (.tmp 13) (.tmp 69) ?_ gx0 0 #[.int .i64 k0.kind, .int .i64 k0.len, .int .u64 k0.h, .int .u64 k0.l, .string ⟨k0.path.toArray⟩] ?_ ?_ ?_ ?_ ?_ ?_); rfl; rfl; rfl; (exact Row.thereAt Rx0 0 _ (by simp)); (exact infoKe); (simp [Value.oneCell']); (rintro wz hwz); (have hHq := hH); (obtain ⟨c1, c2, c3, v0⟩ := hHq); (replace c1 := pcf hwz c1); (replace c2 := pcf hwz c2); (replace c3 := pcf hwz c3); (replace v0 := pcf hwz v0); (replace Rc := prf hwz Rc); (replace Rr := prf hwz Rr); (replace Rv := prf hwz Rv); (replace Rq := prf hwz Rq); (replace hb0 := pbl hwz hb0); (replace Rx0 := psw hwz Rx0); clear hwz)
     refine hK.out _ _ ?hSr1_25_15 fun _ => ?_
     case hSr1_25_15 => (exact ⟨c1, c2, c3, v0⟩)
     clear hK K hH; rename_i hH
     rename World => wq
     (try simp only [Act.put, nz1, nz2, nz3])
     refine tk 16 ⟨some 14, .assign (.tmp 70), 27, _, _, _⟩ hH ?_
     refine wpAnyH_done (by kernel_rfl) ?_ _
     (go_wp2_with fail; go_meet; exact ⟨gx0, rfl, rfl, rfl, mx0, Rx0, Rc, Rr, Rv, Rq, hb0⟩)
   case rest =>
    clear c0 c1 c2 c3 c4 c5 c6 r0 r1 r2 r3 r4 r5 r6 r7 r8 r9 r10 r11 v0 q0 q1 q2 q3 q4 q5 q6 q7 q8 q9 q10 q11 Rc Rr Rv Rq hb0
    obtain ⟨gx0, rfl, rfl, rfl, mx0, Rx0, Rc, Rr, Rv, Rq, hb0⟩ := hcut
    rename World => w3
    have lc := Rc.lt
    have lr := Rr.lt
    have lv := Rv.lt
    have lq := Rq.lt
    have lx0 := Rx0.lt
    (try clear c0 c1 c2 c3 c4 c5 c6); obtain ⟨c0, c1, c2, c3, c4, c5, c6⟩ := row7 Rc
    (try clear r0 r1 r2 r3 r4 r5 r6 r7 r8 r9 r10 r11); obtain ⟨r0, r1, r2, r3, r4, r5, r6, r7, r8, r9, r10, r11⟩ := row12 Rr
    replace v0 := (Rv.cell 0).trans (show _ = some (Value.string ⟨t.toArray⟩) from rfl)
    (try clear q0 q1 q2 q3 q4 q5 q6 q7 q8 q9 q10 q11); obtain ⟨q0, q1, q2, q3, q4, q5, q6, q7, q8, q9, q10, q11⟩ := row12 Rq
    (try clear x00 x01 x02 x03 x04); obtain ⟨x00, x01, x02, x03, x04⟩ := row5 Rx0
    replace hb0 := below_step hbW hb0
    obtain ⟨rf0, rf1, rf2, rf3, rf4, rf5, rf6, rf7, rf8, rf9, rf10, rf11⟩ := fz12 Rr
    go_wp2
    obtain ⟨w4, hwk, hwn⟩ := pnm w3 (w.heap.size + 1) 0 [.int .i64 0, .int .i64 0, .int .i64 0, .int .i64 0, .int .u64 0, .int .u64 0, .string ⟨#[]⟩, .int .i64 0, .int .i64 0, .int .u64 0, .int .u64 0, .string ⟨#[]⟩]
    simp only [World.setCells] at hwk
    rw [← hwk]; clear hwk
    replace Rr : Row w4 (w.heap.size + 1) #[.int .i64 0, .int .i64 0, .int .i64 0, .int .i64 0, .int .u64 0, .int .u64 0, .string ⟨#[]⟩, .int .i64 0, .int .i64 0, .int .u64 0, .int .u64 0, .string ⟨#[]⟩] 40 := psm hwn Rr (by simp [setL])
    replace Rc := prf hwn Rc
    replace Rv := prf hwn Rv
    replace Rq := prf hwn Rq
    replace Rx0 := prf hwn Rx0
    replace hb0 := pbl hwn hb0
    clear hwn c0 c1 c2 c3 c4 c5 c6 r0 r1 r2 r3 r4 r5 r6 r7 r8 r9 r10 r11 v0 q0 q1 q2 q3 q4 q5 q6 q7 q8 q9 q10 q11 x00 x01 x02 x03 x04
    (try clear rf0 rf1 rf2 rf3 rf4 rf5 rf6 rf7 rf8 rf9 rf10 rf11)
    (try clear c0 c1 c2 c3 c4 c5 c6); obtain ⟨c0, c1, c2, c3, c4, c5, c6⟩ := row7 Rc
    (try clear r0 r1 r2 r3 r4 r5 r6 r7 r8 r9 r10 r11); obtain ⟨r0, r1, r2, r3, r4, r5, r6, r7, r8, r9, r10, r11⟩ := row12 Rr
    replace v0 := (Rv.cell 0).trans (show _ = some (Value.string ⟨t.toArray⟩) from rfl)
    (try clear q0 q1 q2 q3 q4 q5 q6 q7 q8 q9 q10 q11); obtain ⟨q0, q1, q2, q3, q4, q5, q6, q7, q8, q9, q10, q11⟩ := row12 Rq
    (try clear x00 x01 x02 x03 x04); obtain ⟨x00, x01, x02, x03, x04⟩ := row5 Rx0
    refine bodyPost_ret (v := .tuple #[.agg #[.int .i64 0, .int .i64 0, .int .i64 0, .int .i64 0, .int .u64 0, .int .u64 0, .string ⟨#[]⟩, .int .i64 0, .int .i64 0, .int .u64 0, .int .u64 0, .string ⟨#[]⟩], .int .i64 er]) (by simp [results, Tryz.results18, go_sem, r0, r1, r2, r3, r4, r5, r6, r7, r8, r9, r10, r11]) rfl ⟨rfl, hb0⟩
theorem rps_1o (s : Sp) (t : List UInt8) (hl : t.length ≤ 2000000) (l0 : Int) (k0 : Ke) (w : World)
  (HT : ((cntT t t.length : Nat) : Int) = 0)
  (HR : ∀ w', Below w.heap.size w w' → Calls Tryz.prog 50 #[.agg #[.int .i64 1, .int .i64 s.d0.kind, .int .i64 s.d0.side, .int .i64 s.d0.step, .int .i64 s.d1.kind, .int .i64 s.d1.side, .int .i64 s.d1.step]] w' fun e w'' => e = .returned (.bool true) ∧ Below w'.heap.size w' w'')
  (HP0 : ∀ w', Below w.heap.size w w' → Calls Tryz.prog 9 #[.agg #[.int .i64 s.d0.kind, .int .i64 s.d0.side, .int .i64 s.d0.step], .string ⟨t.toArray⟩] w' fun e w'' => e = .returned (.tuple #[.int .i64 l0, kv k0, .int .i64 0]) ∧ Below w'.heap.size w' w'')
  : Calls Tryz.prog 18 #[.agg #[.int .i64 1, .int .i64 s.d0.kind, .int .i64 s.d0.side, .int .i64 s.d0.step, .int .i64 s.d1.kind, .int .i64 s.d1.side, .int .i64 s.d1.step], .string ⟨t.toArray⟩] w fun e w' => e = .returned (.tuple #[.agg #[.int .i64 l0, .int .i64 0, .int .i64 k0.kind, .int .i64 k0.len, .int .u64 k0.h, .int .u64 k0.l, .string ⟨k0.path.toArray⟩, .int .i64 0, .int .i64 0, .int .u64 0, .int .u64 0, .string ⟨#[]⟩], .int .i64 0]) ∧ Below w.heap.size w w' := by
 have hcz : ((0 : Int) != IntKind.i64.wrap 0) = false := by decide
 unfold kv at *
 obtain ⟨Rc, Rr, hb0⟩ := two_rows w #[.int .i64 1, .int .i64 s.d0.kind, .int .i64 s.d0.side, .int .i64 s.d0.step, .int .i64 s.d1.kind, .int .i64 s.d1.side, .int .i64 s.d1.step] #[.int .i64 0, .int .i64 0, .int .i64 0, .int .i64 0, .int .u64 0, .int .u64 0, .string ⟨#[]⟩, .int .i64 0, .int .i64 0, .int .u64 0, .int .u64 0, .string ⟨#[]⟩] 36 40
 (try clear c0 c1 c2 c3 c4 c5 c6); obtain ⟨c0, c1, c2, c3, c4, c5, c6⟩ := row7 Rc
 (try clear r0 r1 r2 r3 r4 r5 r6 r7 r8 r9 r10 r11); obtain ⟨r0, r1, r2, r3, r4, r5, r6, r7, r8, r9, r10, r11⟩ := row12 Rr
 go_enter Tryz.func18, Tryz.ntmps18
 go_wp2_with fail
 refine (HR _ hb0).mono ?_
 rintro e w1 ⟨rfl, hb⟩
 replace Rc := Rc.later hb
 replace Rr := Rr.later hb
 replace hb0 := below_step hb0 hb
 clear hb
 have lc := Rc.lt
 have lr := Rr.lt
 (try clear c0 c1 c2 c3 c4 c5 c6); obtain ⟨c0, c1, c2, c3, c4, c5, c6⟩ := row7 Rc
 (try clear r0 r1 r2 r3 r4 r5 r6 r7 r8 r9 r10 r11); obtain ⟨r0, r1, r2, r3, r4, r5, r6, r7, r8, r9, r10, r11⟩ := row12 Rr
 have hsz := bsz t
 go_wp2_with fail
 go_loopw [6, 7, 8] (fun x y z wr => ∃ i : Nat, i ≤ t.length ∧ x = .int .i64 (cntT t i) ∧ y = .int .i64 (lastT t i) ∧ z = .int .i64 i ∧ wr = w1) (fun _ _ z _ => t.length - (intOf z).toNat)
 case atStart => exact ⟨0, by omega, rfl, rfl, rfl, rfl⟩
 case round =>
  obtain ⟨i, hi, hx, hy, rfl, rfl⟩ := hrel
  by_cases hlt : i < t.length
  ·obtain ⟨c, hlj⟩ : ∃ c, t[i]? = some c := ⟨t[i], List.getElem?_eq_getElem hlt⟩
   have hsp : i < (⟨t.toArray⟩ : ByteArray).size := by rw [hsz]; exact hlt
   have hch : (⟨t.toArray⟩ : ByteArray)[i]'hsp = c := by
    have := (List.getElem?_eq_some_iff.1 hlj).2
    exact this
   have hcl := cntT_le t i
   subst hx hy
   have hltn : (i : Int) < t.length := by omega
   by_cases h62 : c = 62
   ·subst h62
    have ec := cntT_yes hlj
    have el := lastT_yes hlj
    clear hlj
    go_wp2_with fail
    refine ⟨⟨i + 1, by omega, ?_, ?_, by congr 1 <;> omega, by first | rfl | trivial⟩, by simp [intOf] <;> omega⟩
    ·rw [ec]; congr 1 <;> omega
    ·rw [el]
   ·have n62 : ¬ (c.toNat : Int) = 62 := fun e => h62 (UInt8.toNat.inj (by rw [show (62 : UInt8).toNat = 62 from rfl]; omega))
    have e62 : ((c.toNat : Int) == 62) = false := by simpa using n62
    have ec := cntT_no hlj h62
    have el := lastT_no hlj h62
    clear hlj
    go_wp2_with fail
    refine ⟨⟨i + 1, by omega, ?_, ?_, by congr 1 <;> omega, by first | rfl | trivial⟩, by simp [intOf] <;> omega⟩
    ·rw [ec]
    ·rw [el]
  ·have hit : i = t.length := by omega
   have hltn : ¬ (i : Int) < t.length := by omega
   rw [hit] at hx
   rw [HT] at hx
   subst hx
   subst hy
   go_wp2_with fail
   have nvc := Rc.lt
   have nvr := Rr.lt
   replace Rc := Rc.alloc (.cells #[.string ⟨t.toArray⟩] 9)
   replace Rr := Rr.alloc (.cells #[.string ⟨t.toArray⟩] 9)
   have Rv := Row.new wr #[Value.string ⟨t.toArray⟩] 9
   have mv := hb0.size
   replace hb0 := hb0.alloc hb0.size (.cells #[.string ⟨t.toArray⟩] 9)
   (try clear c0 c1 c2 c3 c4 c5 c6); obtain ⟨c0, c1, c2, c3, c4, c5, c6⟩ := row7 Rc
   (try clear r0 r1 r2 r3 r4 r5 r6 r7 r8 r9 r10 r11); obtain ⟨r0, r1, r2, r3, r4, r5, r6, r7, r8, r9, r10, r11⟩ := row12 Rr
   replace v0 := (Rv.cell 0).trans (show _ = some (Value.string ⟨t.toArray⟩) from rfl)
   replace Rc := Rc.alloc (.cells #[.int .i64 0, .int .i64 0, .int .i64 0, .int .i64 0, .int .u64 0, .int .u64 0, .string ⟨#[]⟩, .int .i64 0, .int .i64 0, .int .u64 0, .int .u64 0, .string ⟨#[]⟩] 40)
   replace Rr := Rr.alloc (.cells #[.int .i64 0, .int .i64 0, .int .i64 0, .int .i64 0, .int .u64 0, .int .u64 0, .string ⟨#[]⟩, .int .i64 0, .int .i64 0, .int .u64 0, .int .u64 0, .string ⟨#[]⟩] 40)
   replace Rv := Rv.alloc (.cells #[.int .i64 0, .int .i64 0, .int .i64 0, .int .i64 0, .int .u64 0, .int .u64 0, .string ⟨#[]⟩, .int .i64 0, .int .i64 0, .int .u64 0, .int .u64 0, .string ⟨#[]⟩] 40)
   have Rq := Row.new (World.alloc wr (.cells #[.string ⟨t.toArray⟩] 9)) #[Value.int .i64 0, Value.int .i64 0, Value.int .i64 0, Value.int .i64 0, Value.int .u64 0, Value.int .u64 0, Value.string ⟨#[]⟩, Value.int .i64 0, Value.int .i64 0, Value.int .u64 0, Value.int .u64 0, Value.string ⟨#[]⟩] 40
   simp only [World.size_alloc] at Rq
   have mq := hb0.size
   replace hb0 := hb0.alloc hb0.size (.cells #[.int .i64 0, .int .i64 0, .int .i64 0, .int .i64 0, .int .u64 0, .int .u64 0, .string ⟨#[]⟩, .int .i64 0, .int .i64 0, .int .u64 0, .int .u64 0, .string ⟨#[]⟩] 40)
   (try clear c0 c1 c2 c3 c4 c5 c6); obtain ⟨c0, c1, c2, c3, c4, c5, c6⟩ := row7 Rc
   (try clear r0 r1 r2 r3 r4 r5 r6 r7 r8 r9 r10 r11); obtain ⟨r0, r1, r2, r3, r4, r5, r6, r7, r8, r9, r10, r11⟩ := row12 Rr
   replace v0 := (Rv.cell 0).trans (show _ = some (Value.string ⟨t.toArray⟩) from rfl)
   (try clear q0 q1 q2 q3 q4 q5 q6 q7 q8 q9 q10 q11); obtain ⟨q0, q1, q2, q3, q4, q5, q6, q7, q8, q9, q10, q11⟩ := row12 Rq
   refine wp_loop_rounds 3 ?_
   rw [rounds_succ]
   go_wp2_with fail
   generalize (World.alloc (World.alloc wr (.cells #[.string ⟨t.toArray⟩] 9)) (.cells #[.int .i64 0, .int .i64 0, .int .i64 0, .int .i64 0, .int .u64 0, .int .u64 0, .string ⟨#[]⟩, .int .i64 0, .int .i64 0, .int .u64 0, .int .u64 0, .string ⟨#[]⟩] 40)) = w2 at *
   have hbW := hb0
   replace hb0 := Below.refl (Array.size (World.heap w2)) w2
   have lwc := Rc.lt
   have lwr := Rr.lt
   have lwv := Rv.lt
   have lwq := Rq.lt
   go_cut [13, 12, 14] (fun s13 s12 s14 wx => ∃ gx0 : Nat, s13 = .pointer (some ⟨gx0, 0, none⟩) ∧ s12 = .int .i64 l0 ∧ s14 = .int .i64 0 ∧ w2.heap.size ≤ gx0 ∧ Row wx gx0 #[.int .i64 k0.kind, .int .i64 k0.len, .int .u64 k0.h, .int .u64 k0.l, .string ⟨k0.path.toArray⟩] 26 ∧ Row wx w.heap.size #[.int .i64 1, .int .i64 s.d0.kind, .int .i64 s.d0.side, .int .i64 s.d0.step, .int .i64 s.d1.kind, .int .i64 s.d1.side, .int .i64 s.d1.step] 36 ∧ Row wx (w.heap.size + 1) #[.int .i64 0, .int .i64 0, .int .i64 0, .int .i64 0, .int .u64 0, .int .u64 0, .string ⟨#[]⟩, .int .i64 0, .int .i64 0, .int .u64 0, .int .u64 0, .string ⟨#[]⟩] 40 ∧ Row wx wr.heap.size #[.string ⟨t.toArray⟩] 9 ∧ Row wx (wr.heap.size + 1) #[.int .i64 0, .int .i64 0, .int .i64 0, .int .i64 0, .int .u64 0, .int .u64 0, .string ⟨#[]⟩, .int .i64 0, .int .i64 0, .int .u64 0, .int .u64 0, .string ⟨#[]⟩] 40 ∧ Below w2.heap.size w2 wx)
   case first =>
    refine wp_region_held_drew (S := (fun w' => w'.cell? ⟨w.heap.size, 1, none⟩ = some (Value.int .i64 s.d0.kind) ∧ w'.cell? ⟨w.heap.size, 2, none⟩ = some (Value.int .i64 s.d0.side) ∧ w'.cell? ⟨w.heap.size, 3, none⟩ = some (Value.int .i64 s.d0.step) ∧ w'.cell? ⟨wr.heap.size, 0, none⟩ = some (Value.string ⟨t.toArray⟩))) (by kernel_rfl) ?hSr2_ (fun hH => ?_)
    case hSr2_ => (exact ⟨c1, c2, c3, v0⟩)
    (clear c0 c1 c2 c3 c4 c5 c6 r0 r1 r2 r3 r4 r5 r6 r7 r8 r9 r10 r11 v0 q0 q1 q2 q3 q4 q5 q6 q7 q8 q9 q10 q11; (replace Rc := Rc.drew); (replace Rr := Rr.drew); (replace Rv := Rv.drew); (replace Rq := Rq.drew); (replace hb0 := hb0.drew); (generalize World.drew w2 = wq at *))
    refine tk 0 ⟨some 59, .move (.tmp 11), 3, _, _, _⟩ hH ?_
    refine tk 1 ⟨some 60, .fieldAddr 36 (.tmp 2) 1, 0, _, _, _⟩ hH ?_
    refine tk 2 ⟨some 61, .indexAddr 34 (.tmp 60) (.tmp 59), 0, _, _, _⟩ hH ?_
    refine tk 3 ⟨some 62, .load 23 (.tmp 61), 23, _, _, _⟩ hH ?_
    refine tk 4 ⟨some 63, .move (.tmp 9), 77, _, _, _⟩ hH ?_
    refine tk 5 ⟨some 64, .move (.tmp 11), 3, _, _, _⟩ hH ?_
    refine tk 6 ⟨some 65, .indexAddr 77 (.tmp 63) (.tmp 64), 0, _, _, _⟩ hH ?_
    refine tk 7 ⟨some 66, .load 9 (.tmp 65), 9, _, _, _⟩ hH ?_
    refine wpAnyH_ready (rs := [8, 13]) (by kernel_rfl) (by simp) ?_
    refine AllReadyH.cons (o := ⟨some 67, .call { callee := .value (.func 9), args := #[.tmp 62, .tmp 66], argTypes := #[23, 9] }, 28, _, _, _⟩) rfl (fun K hK => ?_) ?_
    ·(go_simp; (refine (HP0 _ (below_step hbW hb0)).mono ?_); (rintro e wz ⟨rfl, hb⟩); (replace Rc := Rc.later hb); (replace Rr := Rr.later hb); (replace Rv := Rv.later hb); (replace Rq := Rq.later hb); (try replace Rx0 := Rx0.later hb); (replace hb0 := below_step hb0 hb); go_wp2_with fail)
     refine hK.out _ _ ?hSr2_9_8 fun _ => ?_
     case hSr2_9_8 => (exact kc hb (kc hb (kc hb (cl hb))) hH)
     clear hK K hH; rename_i hH
     rename World => wq
     (try simp only [Act.put, nz1, nz2, nz3])
     refine tk 9 ⟨some 58, .move (.tmp 67), 28, _, _, _⟩ hH ?_
     refine tk 10 ⟨some 68, .extract (.tmp 58) 0, 3, _, _, _⟩ hH ?_
     refine tk 11 ⟨some 69, .extract (.tmp 58) 1, 26, _, _, _⟩ hH ?_
     refine tk 12 ⟨some 70, .extract (.tmp 58) 2, 27, _, _, _⟩ hH ?_
     refine wpAnyH_ready (rs := [13]) (by kernel_rfl) (by simp) ?_
     refine AllReadyH.cons (o := ⟨some 13, .alloc 26, 0, _, _, _⟩) rfl (fun K hK => ?_) AllReadyH.nil
     (go_simp; (have mx0 := hb0.size); (have nx0_c := Rc.lt); (have nx0_r := Rr.lt); (have nx0_v := Rv.lt); (have nx0_q := Rq.lt); (have Rx0 := Row.new wq #[.int .i64 0, .int .i64 0, .int .u64 0, .int .u64 0, .string ⟨#[]⟩] 26); (have hb : Below wq.heap.size wq (World.alloc wq (.cells #[.int .i64 0, .int .i64 0, .int .u64 0, .int .u64 0, .string ⟨#[]⟩] 26)) := (Below.refl _ _).alloc (Nat.le_refl _) _); (replace Rc := Rc.later hb); (replace Rr := Rr.later hb); (replace Rv := Rv.later hb); (replace Rq := Rq.later hb); (replace hb0 := below_step hb0 hb); (have hSn := kc hb (kc hb (kc hb (cl hb))) hH); clear hb; generalize World.alloc wq (.cells #[.int .i64 0, .int .i64 0, .int .u64 0, .int .u64 0, .string ⟨#[]⟩] 26) = wz at *; generalize wq.heap.size = gx0 at *)
     refine hK.out _ _ ?hSr2_14_13 fun _ => ?_
     case hSr2_14_13 => (exact hSn)
     clear hK K hH; rename_i hH
     rename World => wq
     (try simp only [Act.put, nz1, nz2, nz3])
     refine tk 14 ⟨some 12, .assign (.tmp 68), 3, _, _, _⟩ hH ?_
     refine wpAnyH_ready (rs := [15]) (by kernel_rfl) (by simp) ?_
     refine AllReadyH.cons (o := ⟨none, .store 26 (.tmp 13) (.tmp 69), 0, _, _, _⟩) rfl (fun K hK => ?_) AllReadyH.nil
     ((rw [if_pos (by rfl)]); (with_reducible refine pst 26 (.tmp 13) (.tmp 69) ?_ gx0 0 #[.int .i64 k0.kind, .int .i64 k0.len, .int .u64 k0.h, .int .u64 k0.l, .string ⟨k0.path.toArray⟩] ?_ ?_ ?_ ?_ ?_ ?_); rfl; rfl; rfl; (exact Row.thereAt Rx0 0 _ (by simp)); (exact infoKe); (simp [Value.oneCell']); (rintro wz hwz); (have hHq := hH); (obtain ⟨c1, c2, c3, v0⟩ := hHq); (replace c1 := pcf hwz c1); (replace c2 := pcf hwz c2); (replace c3 := pcf hwz c3); (replace v0 := pcf hwz v0); (replace Rc := prf hwz Rc); (replace Rr := prf hwz Rr); (replace Rv := prf hwz Rv); (replace Rq := prf hwz Rq); (replace hb0 := pbl hwz hb0); (replace Rx0 := psw hwz Rx0); clear hwz)
     refine hK.out _ _ ?hSr2_16_15 fun _ => ?_
     case hSr2_16_15 => (exact ⟨c1, c2, c3, v0⟩)
     clear hK K hH; rename_i hH
     rename World => wq
     (try simp only [Act.put, nz1, nz2, nz3])
     refine tk 16 ⟨some 14, .assign (.tmp 70), 27, _, _, _⟩ hH ?_
     refine wpAnyH_done (by kernel_rfl) ?_ _
     (go_wp2_with fail; go_meet; exact ⟨gx0, rfl, rfl, rfl, mx0, Rx0, Rc, Rr, Rv, Rq, hb0⟩)
    refine AllReadyH.cons (o := ⟨some 13, .alloc 26, 0, _, _, _⟩) rfl (fun K hK => ?_) AllReadyH.nil
    ·(go_simp; (have mx0 := hb0.size); (have nx0_c := Rc.lt); (have nx0_r := Rr.lt); (have nx0_v := Rv.lt); (have nx0_q := Rq.lt); (have Rx0 := Row.new wq #[.int .i64 0, .int .i64 0, .int .u64 0, .int .u64 0, .string ⟨#[]⟩] 26); (have hb : Below wq.heap.size wq (World.alloc wq (.cells #[.int .i64 0, .int .i64 0, .int .u64 0, .int .u64 0, .string ⟨#[]⟩] 26)) := (Below.refl _ _).alloc (Nat.le_refl _) _); (replace Rc := Rc.later hb); (replace Rr := Rr.later hb); (replace Rv := Rv.later hb); (replace Rq := Rq.later hb); (replace hb0 := below_step hb0 hb); (have hSn := kc hb (kc hb (kc hb (cl hb))) hH); clear hb; generalize World.alloc wq (.cells #[.int .i64 0, .int .i64 0, .int .u64 0, .int .u64 0, .string ⟨#[]⟩] 26) = wz at *; generalize wq.heap.size = gx0 at *)
     refine hK.out _ _ ?hSr2_18_13 fun _ => ?_
     case hSr2_18_13 => (exact hSn)
     clear hK K hH; rename_i hH
     rename World => wq
     (try simp only [Act.put, nz1, nz2, nz3])
     refine wpAnyH_ready (rs := [8]) (by kernel_rfl) (by simp) ?_
     refine AllReadyH.cons (o := ⟨some 67, .call { callee := .value (.func 9), args := #[.tmp 62, .tmp 66], argTypes := #[23, 9] }, 28, _, _, _⟩) rfl (fun K hK => ?_) AllReadyH.nil
     (go_simp; (refine (HP0 _ (below_step hbW hb0)).mono ?_); (rintro e wz ⟨rfl, hb⟩); (replace Rc := Rc.later hb); (replace Rr := Rr.later hb); (replace Rv := Rv.later hb); (replace Rq := Rq.later hb); (try replace Rx0 := Rx0.later hb); (replace hb0 := below_step hb0 hb); go_wp2_with fail)
     refine hK.out _ _ ?hSr2_19_8 fun _ => ?_
     case hSr2_19_8 => (exact kc hb (kc hb (kc hb (cl hb))) hH)
     clear hK K hH; rename_i hH
     rename World => wq
     (try simp only [Act.put, nz1, nz2, nz3])
     refine tk 9 ⟨some 58, .move (.tmp 67), 28, _, _, _⟩ hH ?_
     refine tk 10 ⟨some 68, .extract (.tmp 58) 0, 3, _, _, _⟩ hH ?_
     refine tk 11 ⟨some 69, .extract (.tmp 58) 1, 26, _, _, _⟩ hH ?_
     refine tk 12 ⟨some 70, .extract (.tmp 58) 2, 27, _, _, _⟩ hH ?_
     refine tk 14 ⟨some 12, .assign (.tmp 68), 3, _, _, _⟩ hH ?_
     refine wpAnyH_ready (rs := [15]) (by kernel_rfl) (by simp) ?_
     refine AllReadyH.cons (o := ⟨none, .store 26 (.tmp 13) (.tmp 69), 0, _, _, _⟩) rfl (fun K hK => ?_) AllReadyH.nil
     ((rw [if_pos (by rfl)]); (with_reducible refine pst 26 (.tmp 13) (.tmp 69) ?_ gx0 0 #[.int .i64 k0.kind, .int .i64 k0.len, .int .u64 k0.h, .int .u64 k0.l, .string ⟨k0.path.toArray⟩] ?_ ?_ ?_ ?_ ?_ ?_); rfl; rfl; rfl; (exact Row.thereAt Rx0 0 _ (by simp)); (exact infoKe); (simp [Value.oneCell']); (rintro wz hwz); (have hHq := hH); (obtain ⟨c1, c2, c3, v0⟩ := hHq); (replace c1 := pcf hwz c1); (replace c2 := pcf hwz c2); (replace c3 := pcf hwz c3); (replace v0 := pcf hwz v0); (replace Rc := prf hwz Rc); (replace Rr := prf hwz Rr); (replace Rv := prf hwz Rv); (replace Rq := prf hwz Rq); (replace hb0 := pbl hwz hb0); (replace Rx0 := psw hwz Rx0); clear hwz)
     refine hK.out _ _ ?hSr2_25_15 fun _ => ?_
     case hSr2_25_15 => (exact ⟨c1, c2, c3, v0⟩)
     clear hK K hH; rename_i hH
     rename World => wq
     (try simp only [Act.put, nz1, nz2, nz3])
     refine tk 16 ⟨some 14, .assign (.tmp 70), 27, _, _, _⟩ hH ?_
     refine wpAnyH_done (by kernel_rfl) ?_ _
     (go_wp2_with fail; go_meet; exact ⟨gx0, rfl, rfl, rfl, mx0, Rx0, Rc, Rr, Rv, Rq, hb0⟩)
   case rest =>
    clear c0 c1 c2 c3 c4 c5 c6 r0 r1 r2 r3 r4 r5 r6 r7 r8 r9 r10 r11 v0 q0 q1 q2 q3 q4 q5 q6 q7 q8 q9 q10 q11 Rc Rr Rv Rq hb0
    obtain ⟨gx0, rfl, rfl, rfl, mx0, Rx0, Rc, Rr, Rv, Rq, hb0⟩ := hcut
    rename World => w3
    have lc := Rc.lt
    have lr := Rr.lt
    have lv := Rv.lt
    have lq := Rq.lt
    have lx0 := Rx0.lt
    (try clear c0 c1 c2 c3 c4 c5 c6); obtain ⟨c0, c1, c2, c3, c4, c5, c6⟩ := row7 Rc
    (try clear r0 r1 r2 r3 r4 r5 r6 r7 r8 r9 r10 r11); obtain ⟨r0, r1, r2, r3, r4, r5, r6, r7, r8, r9, r10, r11⟩ := row12 Rr
    replace v0 := (Rv.cell 0).trans (show _ = some (Value.string ⟨t.toArray⟩) from rfl)
    (try clear q0 q1 q2 q3 q4 q5 q6 q7 q8 q9 q10 q11); obtain ⟨q0, q1, q2, q3, q4, q5, q6, q7, q8, q9, q10, q11⟩ := row12 Rq
    (try clear x00 x01 x02 x03 x04); obtain ⟨x00, x01, x02, x03, x04⟩ := row5 Rx0
    replace hb0 := below_step hbW hb0
    obtain ⟨qf0, qf1, qf2, qf3, qf4, qf5, qf6, qf7, qf8, qf9, qf10, qf11⟩ := fz12 Rq
    go_wp2_with fail
    obtain ⟨w4, hwk, hwn⟩ := pnm w3 (wr.heap.size + 1) 0 [.int .i64 l0]
    simp only [World.setCells] at hwk
    rw [← hwk]; clear hwk
    replace Rq : Row w4 (wr.heap.size + 1) #[.int .i64 l0, .int .i64 0, .int .i64 0, .int .i64 0, .int .u64 0, .int .u64 0, .string ⟨#[]⟩, .int .i64 0, .int .i64 0, .int .u64 0, .int .u64 0, .string ⟨#[]⟩] 40 := psm hwn Rq (by simp [setL])
    replace Rc := prf hwn Rc
    replace Rr := prf hwn Rr
    replace Rv := prf hwn Rv
    replace Rx0 := prf hwn Rx0
    replace hb0 := pbl hwn hb0
    clear hwn c0 c1 c2 c3 c4 c5 c6 r0 r1 r2 r3 r4 r5 r6 r7 r8 r9 r10 r11 v0 q0 q1 q2 q3 q4 q5 q6 q7 q8 q9 q10 q11 x00 x01 x02 x03 x04
    (try clear qf0 qf1 qf2 qf3 qf4 qf5 qf6 qf7 qf8 qf9 qf10 qf11)
    (try clear c0 c1 c2 c3 c4 c5 c6); obtain ⟨c0, c1, c2, c3, c4, c5, c6⟩ := row7 Rc
    (try clear r0 r1 r2 r3 r4 r5 r6 r7 r8 r9 r10 r11); obtain ⟨r0, r1, r2, r3, r4, r5, r6, r7, r8, r9, r10, r11⟩ := row12 Rr
    replace v0 := (Rv.cell 0).trans (show _ = some (Value.string ⟨t.toArray⟩) from rfl)
    (try clear q0 q1 q2 q3 q4 q5 q6 q7 q8 q9 q10 q11); obtain ⟨q0, q1, q2, q3, q4, q5, q6, q7, q8, q9, q10, q11⟩ := row12 Rq
    (try clear x00 x01 x02 x03 x04); obtain ⟨x00, x01, x02, x03, x04⟩ := row5 Rx0
    obtain ⟨w5, hwk, hwn⟩ := pnm w4 (wr.heap.size + 1) 2 [.int .i64 k0.kind, .int .i64 k0.len, .int .u64 k0.h, .int .u64 k0.l, .string ⟨k0.path.toArray⟩]
    simp only [World.setCells] at hwk
    rw [← hwk]; clear hwk
    replace Rq : Row w5 (wr.heap.size + 1) #[.int .i64 l0, .int .i64 0, .int .i64 k0.kind, .int .i64 k0.len, .int .u64 k0.h, .int .u64 k0.l, .string ⟨k0.path.toArray⟩, .int .i64 0, .int .i64 0, .int .u64 0, .int .u64 0, .string ⟨#[]⟩] 40 := psm hwn Rq (by simp [setL])
    replace Rc := prf hwn Rc
    replace Rr := prf hwn Rr
    replace Rv := prf hwn Rv
    replace Rx0 := prf hwn Rx0
    replace hb0 := pbl hwn hb0
    clear hwn c0 c1 c2 c3 c4 c5 c6 r0 r1 r2 r3 r4 r5 r6 r7 r8 r9 r10 r11 v0 q0 q1 q2 q3 q4 q5 q6 q7 q8 q9 q10 q11 x00 x01 x02 x03 x04
    (try clear qf0 qf1 qf2 qf3 qf4 qf5 qf6 qf7 qf8 qf9 qf10 qf11)
    (try clear c0 c1 c2 c3 c4 c5 c6); obtain ⟨c0, c1, c2, c3, c4, c5, c6⟩ := row7 Rc
    (try clear r0 r1 r2 r3 r4 r5 r6 r7 r8 r9 r10 r11); obtain ⟨r0, r1, r2, r3, r4, r5, r6, r7, r8, r9, r10, r11⟩ := row12 Rr
    replace v0 := (Rv.cell 0).trans (show _ = some (Value.string ⟨t.toArray⟩) from rfl)
    (try clear q0 q1 q2 q3 q4 q5 q6 q7 q8 q9 q10 q11); obtain ⟨q0, q1, q2, q3, q4, q5, q6, q7, q8, q9, q10, q11⟩ := row12 Rq
    (try clear x00 x01 x02 x03 x04); obtain ⟨x00, x01, x02, x03, x04⟩ := row5 Rx0
    rw [rounds_succ]
    obtain ⟨rf0, rf1, rf2, rf3, rf4, rf5, rf6, rf7, rf8, rf9, rf10, rf11⟩ := fz12 Rr
    go_wp2
    obtain ⟨w6, hwk, hwn⟩ := pnm w5 (w.heap.size + 1) 0 [.int .i64 l0, .int .i64 0, .int .i64 k0.kind, .int .i64 k0.len, .int .u64 k0.h, .int .u64 k0.l, .string ⟨k0.path.toArray⟩, .int .i64 0, .int .i64 0, .int .u64 0, .int .u64 0, .string ⟨#[]⟩]
    simp only [World.setCells] at hwk
    rw [← hwk]; clear hwk
    replace Rr : Row w6 (w.heap.size + 1) #[.int .i64 l0, .int .i64 0, .int .i64 k0.kind, .int .i64 k0.len, .int .u64 k0.h, .int .u64 k0.l, .string ⟨k0.path.toArray⟩, .int .i64 0, .int .i64 0, .int .u64 0, .int .u64 0, .string ⟨#[]⟩] 40 := psm hwn Rr (by simp [setL])
    replace Rc := prf hwn Rc
    replace Rv := prf hwn Rv
    replace Rq := prf hwn Rq
    replace Rx0 := prf hwn Rx0
    replace hb0 := pbl hwn hb0
    clear hwn c0 c1 c2 c3 c4 c5 c6 r0 r1 r2 r3 r4 r5 r6 r7 r8 r9 r10 r11 v0 q0 q1 q2 q3 q4 q5 q6 q7 q8 q9 q10 q11 x00 x01 x02 x03 x04
    (try clear rf0 rf1 rf2 rf3 rf4 rf5 rf6 rf7 rf8 rf9 rf10 rf11)
    (try clear c0 c1 c2 c3 c4 c5 c6); obtain ⟨c0, c1, c2, c3, c4, c5, c6⟩ := row7 Rc
    (try clear r0 r1 r2 r3 r4 r5 r6 r7 r8 r9 r10 r11); obtain ⟨r0, r1, r2, r3, r4, r5, r6, r7, r8, r9, r10, r11⟩ := row12 Rr
    replace v0 := (Rv.cell 0).trans (show _ = some (Value.string ⟨t.toArray⟩) from rfl)
    (try clear q0 q1 q2 q3 q4 q5 q6 q7 q8 q9 q10 q11); obtain ⟨q0, q1, q2, q3, q4, q5, q6, q7, q8, q9, q10, q11⟩ := row12 Rq
    (try clear x00 x01 x02 x03 x04); obtain ⟨x00, x01, x02, x03, x04⟩ := row5 Rx0
    refine bodyPost_ret (v := .tuple #[.agg #[.int .i64 l0, .int .i64 0, .int .i64 k0.kind, .int .i64 k0.len, .int .u64 k0.h, .int .u64 k0.l, .string ⟨k0.path.toArray⟩, .int .i64 0, .int .i64 0, .int .u64 0, .int .u64 0, .string ⟨#[]⟩], .int .i64 0]) (by simp [results, Tryz.results18, go_sem, r0, r1, r2, r3, r4, r5, r6, r7, r8, r9, r10, r11]) rfl ⟨rfl, hb0⟩
end Go.Proofs.YtboinifeemghaaaGreatDoor
