/- TR3: what the theorem needs of these texts. No conditions beyond those that are written. -/
import Derived.Test.YtboinifeemghaaaGreatDoorCJT9
set_option linter.unusedSimpArgs false
set_option linter.unusedVariables false
set_option maxHeartbeats 1600000
set_option maxRecDepth 100000
namespace Go.Proofs.YtboinifeemghaaaGreatDoor
open Go.RowKit
theorem last_at (a b : List UInt8) : (a ++ 47 :: b)[a.length]? = some 47 := by simp
theorem last_no (a b : List UInt8) (hb : (47 : UInt8) ∉ b) (j : Nat) (hj : a.length < j) (x : UInt8) (hx : (a ++ 47 :: b)[j]? = some x) : x ≠ 47 := by
 rintro rfl
 rw [List.getElem?_append_right (by omega), show j - a.length = (j - a.length - 1) + 1 by omega, List.getElem?_cons_succ] at hx
 exact hb (List.mem_of_getElem? hx)
theorem rpp_bad (kd sd st : Int) (t : ByteArray) (w : World)
  (HR : ∀ w', Below w.heap.size w w' → Calls Tryz.prog 28 #[.agg #[.int .i64 kd, .int .i64 sd, .int .i64 st]] w' fun e w'' => e = .returned (.bool false) ∧ Below w'.heap.size w' w'')
  : Calls Tryz.prog 9 #[.agg #[.int .i64 kd, .int .i64 sd, .int .i64 st], .string t] w fun e w' => e = .returned (.tuple #[.int .i64 0, .agg #[.int .i64 0, .int .i64 0, .int .u64 0, .int .u64 0, .string ⟨#[]⟩], .int .i64 1]) ∧ Below w.heap.size w w' := by
 obtain ⟨Rc, Rr, hb0⟩ := two_rows w #[.int .i64 kd, .int .i64 sd, .int .i64 st] #[.int .i64 0, .int .i64 0, .int .u64 0, .int .u64 0, .string ⟨#[]⟩] 23 26
 (try clear c0 c1 c2); obtain ⟨c0, c1, c2⟩ := row3 Rc
 (try clear r0 r1 r2 r3 r4); obtain ⟨r0, r1, r2, r3, r4⟩ := row5 Rr
 go_enter Tryz.func9, Tryz.ntmps9
 go_wp2_with fail
 refine (HR _ hb0).mono ?_
 rintro e w1 ⟨rfl, hb⟩
 replace Rc := Rc.later hb
 replace Rr := Rr.later hb
 replace hb0 := below_step hb0 hb
 clear hb
 have lc := Rc.lt
 have lr := Rr.lt
 (try clear c0 c1 c2); obtain ⟨c0, c1, c2⟩ := row3 Rc
 (try clear r0 r1 r2 r3 r4); obtain ⟨r0, r1, r2, r3, r4⟩ := row5 Rr
 obtain ⟨rf0, rf1, rf2, rf3, rf4⟩ := fz5 Rr
 go_wp2
 obtain ⟨w2, hwk, hwn⟩ := pnm w1 (w.heap.size + 1) 0 [.int .i64 0, .int .i64 0, .int .u64 0, .int .u64 0, .string ⟨#[]⟩]
 simp only [World.setCells] at hwk
 rw [← hwk]; clear hwk
 replace Rr : Row w2 (w.heap.size + 1) #[.int .i64 0, .int .i64 0, .int .u64 0, .int .u64 0, .string ⟨#[]⟩] 26 := psm hwn Rr (by simp [setL])
 replace Rc := prf hwn Rc
 replace hb0 := pbl hwn hb0
 clear hwn c0 c1 c2 r0 r1 r2 r3 r4
 (try clear rf0 rf1 rf2 rf3 rf4)
 (try clear c0 c1 c2); obtain ⟨c0, c1, c2⟩ := row3 Rc
 (try clear r0 r1 r2 r3 r4); obtain ⟨r0, r1, r2, r3, r4⟩ := row5 Rr
 refine bodyPost_ret (v := .tuple #[.int .i64 0, .agg #[.int .i64 0, .int .i64 0, .int .u64 0, .int .u64 0, .string ⟨#[]⟩], .int .i64 1]) (by simp [results, Tryz.results9, go_sem, r0, r1, r2, r3, r4]) rfl ⟨rfl, hb0⟩
theorem rpp_none (kd sd st : Int) (t : List UInt8) (hl : t.length ≤ 2000000) (hn : (47 : UInt8) ∉ t) (w : World)
  (HR : ∀ w', Below w.heap.size w w' → Calls Tryz.prog 28 #[.agg #[.int .i64 kd, .int .i64 sd, .int .i64 st]] w' fun e w'' => e = .returned (.bool true) ∧ Below w'.heap.size w' w'')
  : Calls Tryz.prog 9 #[.agg #[.int .i64 kd, .int .i64 sd, .int .i64 st], .string ⟨t.toArray⟩] w fun e w' => e = .returned (.tuple #[.int .i64 0, .agg #[.int .i64 0, .int .i64 0, .int .u64 0, .int .u64 0, .string ⟨#[]⟩], .int .i64 3]) ∧ Below w.heap.size w w' := by
 have hsz := bsz t
 have HN := Lib.hid hn
 clear hn
 obtain ⟨Rc, Rr, hb0⟩ := two_rows w #[.int .i64 kd, .int .i64 sd, .int .i64 st] #[.int .i64 0, .int .i64 0, .int .u64 0, .int .u64 0, .string ⟨#[]⟩] 23 26
 (try clear c0 c1 c2); obtain ⟨c0, c1, c2⟩ := row3 Rc
 (try clear r0 r1 r2 r3 r4); obtain ⟨r0, r1, r2, r3, r4⟩ := row5 Rr
 go_enter Tryz.func9, Tryz.ntmps9
 go_wp2_with fail
 refine (HR _ hb0).mono ?_
 rintro e w1 ⟨rfl, hb⟩
 replace Rc := Rc.later hb
 replace Rr := Rr.later hb
 replace hb0 := below_step hb0 hb
 clear hb
 have lc := Rc.lt
 have lr := Rr.lt
 (try clear c0 c1 c2); obtain ⟨c0, c1, c2⟩ := row3 Rc
 (try clear r0 r1 r2 r3 r4); obtain ⟨r0, r1, r2, r3, r4⟩ := row5 Rr
 go_wp2_with fail
 go_loopw [7] (fun x wr => ((∃ j : Nat, j < t.length ∧ x = .int .i64 j) ∨ x = .int .i64 (-1)) ∧ wr = w1) (fun x _ => (intOf x + 1).toNat)
 case atStart =>
  refine ⟨?_, rfl⟩
  by_cases h0 : t.length = 0
  ·refine .inr ?_; rw [h0]; rfl
  ·exact .inl ⟨t.length - 1, by omega, by congr 1 <;> omega⟩
 case round =>
  obtain ⟨hx, rfl⟩ := hrel
  rcases hx with ⟨j, hj, rfl⟩ | rfl
  ·obtain ⟨c, hlj⟩ : ∃ c, t[j] = c := ⟨_, rfl⟩
   have hsp : j < (⟨t.toArray⟩ : ByteArray).size := by rw [hsz]; exact hj
   have hch : (⟨t.toArray⟩ : ByteArray)[j]'hsp = c := hlj
   have n47 : ¬ (c.toNat : Int) = 47 := fun e => HN.out (by
    have : c = 47 := UInt8.toNat.inj (by rw [show (47 : UInt8).toNat = 47 from rfl]; omega)
    rw [← this, ← hlj]; exact List.getElem_mem hj)
   clear hlj
   have e47 : ((c.toNat : Int) == 47) = false := by simpa using n47
   have x47 : ((c.toNat : Int) != 47) = true := by simpa using n47
   go_wp2_with fail
   refine ⟨⟨?_, by first | rfl | trivial⟩, by simp [intOf] <;> omega⟩
   by_cases h0 : j = 0
   ·refine .inr ?_; rw [h0]; rfl
   ·exact .inl ⟨j - 1, by omega, by congr 1 <;> omega⟩
  ·skip
   obtain ⟨rf0, rf1, rf2, rf3, rf4⟩ := fz5 Rr
   go_wp2
   obtain ⟨w2, hwk, hwn⟩ := pnm wr (w.heap.size + 1) 0 [.int .i64 0, .int .i64 0, .int .u64 0, .int .u64 0, .string ⟨#[]⟩]
   simp only [World.setCells] at hwk
   rw [← hwk]; clear hwk
   replace Rr : Row w2 (w.heap.size + 1) #[.int .i64 0, .int .i64 0, .int .u64 0, .int .u64 0, .string ⟨#[]⟩] 26 := psm hwn Rr (by simp [setL])
   replace Rc := prf hwn Rc
   replace hb0 := pbl hwn hb0
   clear hwn c0 c1 c2 r0 r1 r2 r3 r4
   (try clear rf0 rf1 rf2 rf3 rf4)
   (try clear c0 c1 c2); obtain ⟨c0, c1, c2⟩ := row3 Rc
   (try clear r0 r1 r2 r3 r4); obtain ⟨r0, r1, r2, r3, r4⟩ := row5 Rr
   refine bodyPost_ret (v := .tuple #[.int .i64 0, .agg #[.int .i64 0, .int .i64 0, .int .u64 0, .int .u64 0, .string ⟨#[]⟩], .int .i64 3]) (by simp [results, Tryz.results9, go_sem, r0, r1, r2, r3, r4]) rfl ⟨rfl, hb0⟩
theorem rpp_is (kd sd st : Int) (t a b : List UInt8) (m : Nat) (hl : t.length ≤ 2000000) (ht : t = a ++ 47 :: b) (hm : m = a.length) (hb : (47 : UInt8) ∉ b) (w : World)
  (HR : ∀ w', Below w.heap.size w w' → Calls Tryz.prog 28 #[.agg #[.int .i64 kd, .int .i64 sd, .int .i64 st]] w' fun e w'' => e = .returned (.bool true) ∧ Below w'.heap.size w' w'')
  (HI : ∀ w', Below w.heap.size w w' → Calls Tryz.prog 29 #[.string ⟨b.toArray⟩] w' fun e w'' => e = .returned (.bool false) ∧ Below w'.heap.size w' w'')
  : Calls Tryz.prog 9 #[.agg #[.int .i64 kd, .int .i64 sd, .int .i64 st], .string ⟨t.toArray⟩] w fun e w' => e = .returned (.tuple #[.int .i64 0, .agg #[.int .i64 0, .int .i64 0, .int .u64 0, .int .u64 0, .string ⟨#[]⟩], .int .i64 3]) ∧ Below w.heap.size w w' := by
 have hsz := bsz t
 have hat : t[m]? = some 47 := by rw [ht, hm]; exact last_at a b
 have hno : ∀ j : Nat, m < j → ∀ x, t[j]? = some x → x ≠ 47 := fun j hj x hx => by rw [ht] at hx; rw [hm] at hj; exact last_no a b hb j hj x hx
 have hlen : m + 1 + b.length = t.length := by rw [ht, hm, List.length_append, List.length_cons]; omega
 have hx1 : (⟨t.toArray⟩ : ByteArray).extract (m + 1) t.length = ⟨b.toArray⟩ := by
  rw [ext_l, List.take_length, ht, hm, ← List.drop_drop, List.drop_left]; rfl
 have hx0 : (⟨t.toArray⟩ : ByteArray).extract 0 m = ⟨a.toArray⟩ := by
  rw [ext_l, ht, hm, List.take_left]; rfl
 have hml : m < t.length := by omega
 have HAT := Lib.hid hat
 have HNO := Lib.hid hno
 clear hat hno ht hm hb
 obtain ⟨Rc, Rr, hb0⟩ := two_rows w #[.int .i64 kd, .int .i64 sd, .int .i64 st] #[.int .i64 0, .int .i64 0, .int .u64 0, .int .u64 0, .string ⟨#[]⟩] 23 26
 (try clear c0 c1 c2); obtain ⟨c0, c1, c2⟩ := row3 Rc
 (try clear r0 r1 r2 r3 r4); obtain ⟨r0, r1, r2, r3, r4⟩ := row5 Rr
 go_enter Tryz.func9, Tryz.ntmps9
 go_wp2_with fail
 refine (HR _ hb0).mono ?_
 rintro e w1 ⟨rfl, hb⟩
 replace Rc := Rc.later hb
 replace Rr := Rr.later hb
 replace hb0 := below_step hb0 hb
 clear hb
 have lc := Rc.lt
 have lr := Rr.lt
 (try clear c0 c1 c2); obtain ⟨c0, c1, c2⟩ := row3 Rc
 (try clear r0 r1 r2 r3 r4); obtain ⟨r0, r1, r2, r3, r4⟩ := row5 Rr
 go_wp2_with fail
 go_loopw [7] (fun x wr => ∃ j : Nat, m ≤ j ∧ j < t.length ∧ x = .int .i64 j ∧ wr = w1) (fun x _ => (intOf x).toNat)
 case atStart => exact ⟨t.length - 1, by omega, by omega, by congr 1 <;> omega, rfl⟩
 case round =>
  obtain ⟨j, hmj, hj, rfl, rfl⟩ := hrel
  obtain ⟨c, hlj⟩ : ∃ c, t[j]? = some c := ⟨t[j], List.getElem?_eq_getElem hj⟩
  have hsp : j < (⟨t.toArray⟩ : ByteArray).size := by rw [hsz]; exact hj
  have hch : (⟨t.toArray⟩ : ByteArray)[j]'hsp = c := by
   have := (List.getElem?_eq_some_iff.1 hlj).2
   exact this
  by_cases hjm : m < j
  ·have n47 : ¬ (c.toNat : Int) = 47 := fun e => HNO.out j hjm c hlj (UInt8.toNat.inj (by rw [show (47 : UInt8).toNat = 47 from rfl]; omega))
   clear hlj
   have e47 : ((c.toNat : Int) == 47) = false := by simpa using n47
   have x47 : ((c.toNat : Int) != 47) = true := by simpa using n47
   go_wp2_with fail
   exact ⟨⟨j - 1, by omega, by omega, by congr 1 <;> omega, by first | rfl | trivial⟩, by simp [intOf] <;> omega⟩
  ·obtain rfl : j = m := by omega
   rw [HAT.out] at hlj
   obtain rfl : (47 : UInt8) = c := by cases hlj; rfl
   have hjle : j ≤ t.length := by omega
   clear hlj HAT HNO hjm hmj
   go_wp2_with fail
   refine (HI _ hb0).mono ?_
   rintro e wh ⟨rfl, hb⟩
   replace Rc := Rc.later hb
   replace Rr := Rr.later hb
   replace hb0 := below_step hb0 hb
   clear hb
   have lr := Rr.lt
   (try clear c0 c1 c2); obtain ⟨c0, c1, c2⟩ := row3 Rc
   (try clear r0 r1 r2 r3 r4); obtain ⟨r0, r1, r2, r3, r4⟩ := row5 Rr
   obtain ⟨rf0, rf1, rf2, rf3, rf4⟩ := fz5 Rr
   go_wp2
   obtain ⟨w2, hwk, hwn⟩ := pnm wh (w.heap.size + 1) 0 [.int .i64 0, .int .i64 0, .int .u64 0, .int .u64 0, .string ⟨#[]⟩]
   simp only [World.setCells] at hwk
   rw [← hwk]; clear hwk
   replace Rr : Row w2 (w.heap.size + 1) #[.int .i64 0, .int .i64 0, .int .u64 0, .int .u64 0, .string ⟨#[]⟩] 26 := psm hwn Rr (by simp [setL])
   replace Rc := prf hwn Rc
   replace hb0 := pbl hwn hb0
   clear hwn c0 c1 c2 r0 r1 r2 r3 r4
   (try clear rf0 rf1 rf2 rf3 rf4)
   (try clear c0 c1 c2); obtain ⟨c0, c1, c2⟩ := row3 Rc
   (try clear r0 r1 r2 r3 r4); obtain ⟨r0, r1, r2, r3, r4⟩ := row5 Rr
   refine bodyPost_ret (v := .tuple #[.int .i64 0, .agg #[.int .i64 0, .int .i64 0, .int .u64 0, .int .u64 0, .string ⟨#[]⟩], .int .i64 3]) (by simp [results, Tryz.results9, go_sem, r0, r1, r2, r3, r4]) rfl ⟨rfl, hb0⟩
theorem rpp_wh (kd sd st : Int) (t a b : List UInt8) (m : Nat) (q : Ke) (hl : t.length ≤ 2000000) (ht : t = a ++ 47 :: b) (hm : m = a.length) (hb : (47 : UInt8) ∉ b) (w : World)
  (HR : ∀ w', Below w.heap.size w w' → Calls Tryz.prog 28 #[.agg #[.int .i64 kd, .int .i64 sd, .int .i64 st]] w' fun e w'' => e = .returned (.bool true) ∧ Below w'.heap.size w' w'')
  (HI : ∀ w', Below w.heap.size w w' → Calls Tryz.prog 29 #[.string ⟨b.toArray⟩] w' fun e w'' => e = .returned (.bool true) ∧ Below w'.heap.size w' w'')
  (HW : ∀ w', Below w.heap.size w w' → Calls Tryz.prog 30 #[.int .i64 kd, .string ⟨a.toArray⟩] w' fun e w'' => e = .returned (.tuple #[kv q, .bool false]) ∧ Below w'.heap.size w' w'')
  : Calls Tryz.prog 9 #[.agg #[.int .i64 kd, .int .i64 sd, .int .i64 st], .string ⟨t.toArray⟩] w fun e w' => e = .returned (.tuple #[.int .i64 0, .agg #[.int .i64 0, .int .i64 0, .int .u64 0, .int .u64 0, .string ⟨#[]⟩], .int .i64 3]) ∧ Below w.heap.size w w' := by
 unfold kv at *
 have hsz := bsz t
 have hat : t[m]? = some 47 := by rw [ht, hm]; exact last_at a b
 have hno : ∀ j : Nat, m < j → ∀ x, t[j]? = some x → x ≠ 47 := fun j hj x hx => by rw [ht] at hx; rw [hm] at hj; exact last_no a b hb j hj x hx
 have hlen : m + 1 + b.length = t.length := by rw [ht, hm, List.length_append, List.length_cons]; omega
 have hx1 : (⟨t.toArray⟩ : ByteArray).extract (m + 1) t.length = ⟨b.toArray⟩ := by
  rw [ext_l, List.take_length, ht, hm, ← List.drop_drop, List.drop_left]; rfl
 have hx0 : (⟨t.toArray⟩ : ByteArray).extract 0 m = ⟨a.toArray⟩ := by
  rw [ext_l, ht, hm, List.take_left]; rfl
 have hml : m < t.length := by omega
 have HAT := Lib.hid hat
 have HNO := Lib.hid hno
 clear hat hno ht hm hb
 obtain ⟨Rc, Rr, hb0⟩ := two_rows w #[.int .i64 kd, .int .i64 sd, .int .i64 st] #[.int .i64 0, .int .i64 0, .int .u64 0, .int .u64 0, .string ⟨#[]⟩] 23 26
 (try clear c0 c1 c2); obtain ⟨c0, c1, c2⟩ := row3 Rc
 (try clear r0 r1 r2 r3 r4); obtain ⟨r0, r1, r2, r3, r4⟩ := row5 Rr
 go_enter Tryz.func9, Tryz.ntmps9
 go_wp2_with fail
 refine (HR _ hb0).mono ?_
 rintro e w1 ⟨rfl, hb⟩
 replace Rc := Rc.later hb
 replace Rr := Rr.later hb
 replace hb0 := below_step hb0 hb
 clear hb
 have lc := Rc.lt
 have lr := Rr.lt
 (try clear c0 c1 c2); obtain ⟨c0, c1, c2⟩ := row3 Rc
 (try clear r0 r1 r2 r3 r4); obtain ⟨r0, r1, r2, r3, r4⟩ := row5 Rr
 go_wp2_with fail
 go_loopw [7] (fun x wr => ∃ j : Nat, m ≤ j ∧ j < t.length ∧ x = .int .i64 j ∧ wr = w1) (fun x _ => (intOf x).toNat)
 case atStart => exact ⟨t.length - 1, by omega, by omega, by congr 1 <;> omega, rfl⟩
 case round =>
  obtain ⟨j, hmj, hj, rfl, rfl⟩ := hrel
  obtain ⟨c, hlj⟩ : ∃ c, t[j]? = some c := ⟨t[j], List.getElem?_eq_getElem hj⟩
  have hsp : j < (⟨t.toArray⟩ : ByteArray).size := by rw [hsz]; exact hj
  have hch : (⟨t.toArray⟩ : ByteArray)[j]'hsp = c := by
   have := (List.getElem?_eq_some_iff.1 hlj).2
   exact this
  by_cases hjm : m < j
  ·have n47 : ¬ (c.toNat : Int) = 47 := fun e => HNO.out j hjm c hlj (UInt8.toNat.inj (by rw [show (47 : UInt8).toNat = 47 from rfl]; omega))
   clear hlj
   have e47 : ((c.toNat : Int) == 47) = false := by simpa using n47
   have x47 : ((c.toNat : Int) != 47) = true := by simpa using n47
   go_wp2_with fail
   exact ⟨⟨j - 1, by omega, by omega, by congr 1 <;> omega, by first | rfl | trivial⟩, by simp [intOf] <;> omega⟩
  ·obtain rfl : j = m := by omega
   rw [HAT.out] at hlj
   obtain rfl : (47 : UInt8) = c := by cases hlj; rfl
   have hjle : j ≤ t.length := by omega
   clear hlj HAT HNO hjm hmj
   go_wp2_with fail
   refine (HI _ hb0).mono ?_
   rintro e wh ⟨rfl, hb⟩
   replace Rc := Rc.later hb
   replace Rr := Rr.later hb
   replace hb0 := below_step hb0 hb
   clear hb
   have lr := Rr.lt
   (try clear c0 c1 c2); obtain ⟨c0, c1, c2⟩ := row3 Rc
   (try clear r0 r1 r2 r3 r4); obtain ⟨r0, r1, r2, r3, r4⟩ := row5 Rr
   go_wp2_with fail
   have hbW := hb0
   have lwr := lr
   replace hb0 := Below.refl wh.heap.size wh
   go_cut [8, 9] (fun s8 s9 wx => ∃ gb : Nat, s8 = .pointer (some ⟨gb, 0, none⟩) ∧ s9 = .bool false ∧ wh.heap.size ≤ gb ∧ Row wx gb #[.int .i64 q.kind, .int .i64 q.len, .int .u64 q.h, .int .u64 q.l, .string ⟨q.path.toArray⟩] 26 ∧ Row wx w.heap.size #[.int .i64 kd, .int .i64 sd, .int .i64 st] 23 ∧ Row wx (w.heap.size + 1) #[.int .i64 0, .int .i64 0, .int .u64 0, .int .u64 0, .string ⟨#[]⟩] 26 ∧ Below wh.heap.size wh wx)
   case first =>
    refine wp_region_held_drew (S := (fun w' => w'.cell? ⟨w.heap.size, 0, none⟩ = some (Value.int .i64 kd))) (by kernel_rfl) ?hSr1_ (fun hH => ?_)
    case hSr1_ => (exact c0)
    (clear c0 c1 c2 r0 r1 r2 r3 r4; (replace Rc := Rc.drew); (replace Rr := Rr.drew); (replace hb0 := hb0.drew); (generalize World.drew wh = wq at *))
    refine tk 0 ⟨some 42, .fieldAddr 23 (.tmp 2) 0, 0, _, _, _⟩ hH ?_
    refine tk 1 ⟨some 43, .load 3 (.tmp 42), 3, _, _, _⟩ hH ?_
    refine tk 2 ⟨some 44, .move (.tmp 1), 9, _, _, _⟩ hH ?_
    refine tk 3 ⟨some 45, .move (.tmp 7), 3, _, _, _⟩ hH ?_
    refine tk 4 ⟨some 46, .slice 9 (.tmp 44) none (some (.tmp 45)) none, 9, _, _, _⟩ hH ?_
    refine wpAnyH_ready (rs := [5, 9]) (by kernel_rfl) (by simp) ?_
    refine AllReadyH.cons (o := ⟨some 47, .call { callee := .value (.func 30), args := #[.tmp 43, .tmp 46], argTypes := #[3, 9] }, 60, _, _, _⟩) rfl (fun K hK => ?_) ?_
    ·(go_simp; (refine (HW _ (below_step hbW hb0)).mono ?_); (rintro e wz ⟨rfl, hb⟩); (replace Rc := Rc.later hb); (replace Rr := Rr.later hb); (try replace Rb := Rb.later hb); (replace hb0 := below_step hb0 hb); go_wp2_with fail)
     refine hK.out _ _ ?hSr1_6_5 fun _ => ?_
     case hSr1_6_5 => (exact cl hb hH)
     clear hK K hH; rename_i hH
     rename World => wq
     (try simp only [Act.put, nz1, nz2, nz3])
     refine tk 6 ⟨some 41, .move (.tmp 47), 60, _, _, _⟩ hH ?_
     refine tk 7 ⟨some 48, .extract (.tmp 41) 0, 26, _, _, _⟩ hH ?_
     refine tk 8 ⟨some 49, .extract (.tmp 41) 1, 4, _, _, _⟩ hH ?_
     refine wpAnyH_ready (rs := [9]) (by kernel_rfl) (by simp) ?_
     refine AllReadyH.cons (o := ⟨some 8, .alloc 26, 0, _, _, _⟩) rfl (fun K hK => ?_) AllReadyH.nil
     (go_simp; (have mb := hb0.size); (have nb_c := Rc.lt); (have nb_r := Rr.lt); (have Rb := Row.new wq #[.int .i64 0, .int .i64 0, .int .u64 0, .int .u64 0, .string ⟨#[]⟩] 26); (have hb : Below wq.heap.size wq (World.alloc wq (.cells #[.int .i64 0, .int .i64 0, .int .u64 0, .int .u64 0, .string ⟨#[]⟩] 26)) := (Below.refl _ _).alloc (Nat.le_refl _) _); (replace Rc := Rc.later hb); (replace Rr := Rr.later hb); (replace hb0 := below_step hb0 hb); (have hSn : (World.alloc wq (.cells #[.int .i64 0, .int .i64 0, .int .u64 0, .int .u64 0, .string ⟨#[]⟩] 26)).cell? ⟨w.heap.size, 0, none⟩ = some (Value.int .i64 kd) := by exact cl hb hH); clear hb; generalize World.alloc wq (.cells #[.int .i64 0, .int .i64 0, .int .u64 0, .int .u64 0, .string ⟨#[]⟩] 26) = wz at *; generalize wq.heap.size = gb at *)
     refine hK.out _ _ ?hSr1_10_9 fun _ => ?_
     case hSr1_10_9 => (exact hSn)
     clear hK K hH; rename_i hH
     rename World => wq
     (try simp only [Act.put, nz1, nz2, nz3])
     refine wpAnyH_ready (rs := [10]) (by kernel_rfl) (by simp) ?_
     refine AllReadyH.cons (o := ⟨none, .store 26 (.tmp 8) (.tmp 48), 0, _, _, _⟩) rfl (fun K hK => ?_) AllReadyH.nil
     ((rw [if_pos (by rfl)]); (with_reducible refine pst 26 (.tmp 8) (.tmp 48) ?_ gb 0 #[.int .i64 q.kind, .int .i64 q.len, .int .u64 q.h, .int .u64 q.l, .string ⟨q.path.toArray⟩] ?_ ?_ ?_ ?_ ?_ ?_); rfl; rfl; rfl; (exact Row.thereAt Rb 0 _ (by simp)); (exact infoKe); (simp [Value.oneCell']); (rintro wz hwz); (have hHq := hH); (have c0 := hHq); (replace c0 := pcf hwz c0); (replace Rc := prf hwz Rc); (replace Rr := prf hwz Rr); (replace hb0 := pbl hwz hb0); (replace Rb := psw hwz Rb); clear hwz)
     refine hK.out _ _ ?hSr1_11_10 fun _ => ?_
     case hSr1_11_10 => (exact c0)
     clear hK K hH; rename_i hH
     rename World => wq
     (try simp only [Act.put, nz1, nz2, nz3])
     refine tk 11 ⟨some 9, .assign (.tmp 49), 4, _, _, _⟩ hH ?_
     refine wpAnyH_done (by kernel_rfl) ?_ _
     (go_wp2_with fail; go_meet; exact ⟨gb, rfl, rfl, mb, Rb, Rc, Rr, hb0⟩)
    refine AllReadyH.cons (o := ⟨some 8, .alloc 26, 0, _, _, _⟩) rfl (fun K hK => ?_) AllReadyH.nil
    ·(go_simp; (have mb := hb0.size); (have nb_c := Rc.lt); (have nb_r := Rr.lt); (have Rb := Row.new wq #[.int .i64 0, .int .i64 0, .int .u64 0, .int .u64 0, .string ⟨#[]⟩] 26); (have hb : Below wq.heap.size wq (World.alloc wq (.cells #[.int .i64 0, .int .i64 0, .int .u64 0, .int .u64 0, .string ⟨#[]⟩] 26)) := (Below.refl _ _).alloc (Nat.le_refl _) _); (replace Rc := Rc.later hb); (replace Rr := Rr.later hb); (replace hb0 := below_step hb0 hb); (have hSn : (World.alloc wq (.cells #[.int .i64 0, .int .i64 0, .int .u64 0, .int .u64 0, .string ⟨#[]⟩] 26)).cell? ⟨w.heap.size, 0, none⟩ = some (Value.int .i64 kd) := by exact cl hb hH); clear hb; generalize World.alloc wq (.cells #[.int .i64 0, .int .i64 0, .int .u64 0, .int .u64 0, .string ⟨#[]⟩] 26) = wz at *; generalize wq.heap.size = gb at *)
     refine hK.out _ _ ?hSr1_13_9 fun _ => ?_
     case hSr1_13_9 => (exact hSn)
     clear hK K hH; rename_i hH
     rename World => wq
     (try simp only [Act.put, nz1, nz2, nz3])
     refine wpAnyH_ready (rs := [5]) (by kernel_rfl) (by simp) ?_
     refine AllReadyH.cons (o := ⟨some 47, .call { callee := .value (.func 30), args := #[.tmp 43, .tmp 46], argTypes := #[3, 9] }, 60, _, _, _⟩) rfl (fun K hK => ?_) AllReadyH.nil
     (go_simp; (refine (HW _ (below_step hbW hb0)).mono ?_); (rintro e wz ⟨rfl, hb⟩); (replace Rc := Rc.later hb); (replace Rr := Rr.later hb); (try replace Rb := Rb.later hb); (replace hb0 := below_step hb0 hb); go_wp2_with fail)
     refine hK.out _ _ ?hSr1_14_5 fun _ => ?_
     case hSr1_14_5 => (exact cl hb hH)
     clear hK K hH; rename_i hH
     rename World => wq
     (try simp only [Act.put, nz1, nz2, nz3])
     refine tk 6 ⟨some 41, .move (.tmp 47), 60, _, _, _⟩ hH ?_
     refine tk 7 ⟨some 48, .extract (.tmp 41) 0, 26, _, _, _⟩ hH ?_
     refine tk 8 ⟨some 49, .extract (.tmp 41) 1, 4, _, _, _⟩ hH ?_
     refine wpAnyH_ready (rs := [10]) (by kernel_rfl) (by simp) ?_
     refine AllReadyH.cons (o := ⟨none, .store 26 (.tmp 8) (.tmp 48), 0, _, _, _⟩) rfl (fun K hK => ?_) AllReadyH.nil
     ((rw [if_pos (by rfl)]); (with_reducible refine pst 26 (.tmp 8) (.tmp 48) ?_ gb 0 #[.int .i64 q.kind, .int .i64 q.len, .int .u64 q.h, .int .u64 q.l, .string ⟨q.path.toArray⟩] ?_ ?_ ?_ ?_ ?_ ?_); rfl; rfl; rfl; (exact Row.thereAt Rb 0 _ (by simp)); (exact infoKe); (simp [Value.oneCell']); (rintro wz hwz); (have hHq := hH); (have c0 := hHq); (replace c0 := pcf hwz c0); (replace Rc := prf hwz Rc); (replace Rr := prf hwz Rr); (replace hb0 := pbl hwz hb0); (replace Rb := psw hwz Rb); clear hwz)
     refine hK.out _ _ ?hSr1_18_10 fun _ => ?_
     case hSr1_18_10 => (exact c0)
     clear hK K hH; rename_i hH
     rename World => wq
     (try simp only [Act.put, nz1, nz2, nz3])
     refine tk 11 ⟨some 9, .assign (.tmp 49), 4, _, _, _⟩ hH ?_
     refine wpAnyH_done (by kernel_rfl) ?_ _
     (go_wp2_with fail; go_meet; exact ⟨gb, rfl, rfl, mb, Rb, Rc, Rr, hb0⟩)
   case rest =>
    clear c0 c1 c2 r0 r1 r2 r3 r4 Rc Rr hb0
    obtain ⟨gb, rfl, rfl, mb, Rb, Rc, Rr, hb0⟩ := hcut
    rename World => w2
    have lc := Rc.lt
    have lr := Rr.lt
    have lb := Rb.lt
    (try clear c0 c1 c2); obtain ⟨c0, c1, c2⟩ := row3 Rc
    (try clear r0 r1 r2 r3 r4); obtain ⟨r0, r1, r2, r3, r4⟩ := row5 Rr
    (try clear b0 b1 b2 b3 b4); obtain ⟨b0, b1, b2, b3, b4⟩ := row5 Rb
    replace hb0 := below_step hbW hb0
    obtain ⟨rf0, rf1, rf2, rf3, rf4⟩ := fz5 Rr
    go_wp2
    obtain ⟨w3, hwk, hwn⟩ := pnm w2 (w.heap.size + 1) 0 [.int .i64 0, .int .i64 0, .int .u64 0, .int .u64 0, .string ⟨#[]⟩]
    simp only [World.setCells] at hwk
    rw [← hwk]; clear hwk
    replace Rr : Row w3 (w.heap.size + 1) #[.int .i64 0, .int .i64 0, .int .u64 0, .int .u64 0, .string ⟨#[]⟩] 26 := psm hwn Rr (by simp [setL])
    replace Rc := prf hwn Rc
    replace Rb := prf hwn Rb
    replace hb0 := pbl hwn hb0
    clear hwn c0 c1 c2 r0 r1 r2 r3 r4 b0 b1 b2 b3 b4
    (try clear rf0 rf1 rf2 rf3 rf4)
    (try clear c0 c1 c2); obtain ⟨c0, c1, c2⟩ := row3 Rc
    (try clear r0 r1 r2 r3 r4); obtain ⟨r0, r1, r2, r3, r4⟩ := row5 Rr
    (try clear b0 b1 b2 b3 b4); obtain ⟨b0, b1, b2, b3, b4⟩ := row5 Rb
    refine bodyPost_ret (v := .tuple #[.int .i64 0, .agg #[.int .i64 0, .int .i64 0, .int .u64 0, .int .u64 0, .string ⟨#[]⟩], .int .i64 3]) (by simp [results, Tryz.results9, go_sem, r0, r1, r2, r3, r4]) rfl ⟨rfl, hb0⟩
end Go.Proofs.YtboinifeemghaaaGreatDoor
