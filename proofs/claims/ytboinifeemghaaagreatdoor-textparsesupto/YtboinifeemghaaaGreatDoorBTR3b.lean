/- TR3b: what the theorem needs of these texts. No conditions beyond those that are written. -/
import Derived.Test.YtboinifeemghaaaGreatDoorBJT9
set_option linter.unusedSimpArgs false
set_option linter.unusedVariables false
set_option maxHeartbeats 1600000
set_option maxRecDepth 100000
namespace Go.Proofs.YtboinifeemghaaaGreatDoor
open Go.RowKit
theorem rpp_go3 (sd st : Int) (t a b : List UInt8) (m : Nat) (q : Ke) (hl : t.length ≤ 2000000) (ht : t = a ++ 47 :: b) (hm : m = a.length) (hb : (47 : UInt8) ∉ b) (ls : List Int) (N : Nat) (hN : ls.length = N) (h0N : 0 < N) (hN2 : N ≤ 200) (on : Nat → Bool) (res : Value) (w : World)
  (HR : ∀ w', Below w.heap.size w w' → Calls Tryz.prog 28 #[.agg #[.int .i64 3, .int .i64 sd, .int .i64 st]] w' fun e w'' => e = .returned (.bool true) ∧ Below w'.heap.size w' w'')
  (HI : ∀ w', Below w.heap.size w w' → Calls Tryz.prog 29 #[.string ⟨b.toArray⟩] w' fun e w'' => e = .returned (.bool true) ∧ Below w'.heap.size w' w'')
  (HW : ∀ w', Below w.heap.size w w' → Calls Tryz.prog 30 #[.int .i64 3, .string ⟨a.toArray⟩] w' fun e w'' => e = .returned (.tuple #[kv q, .bool true]) ∧ Below w'.heap.size w' w'')
  (HL : ∀ w', Below w.heap.size w w' → Calls Tryz.prog 31 #[.agg #[.int .i64 3, .int .i64 sd, .int .i64 st]] w' fun e w'' => ∃ v, e = .returned v ∧ IS w'' v ls ∧ Below w'.heap.size w' w'')
  (HN : ∀ (j : Nat) (x : Int), ls[j]? = some x → ∀ w', Below w.heap.size w w' → Calls Tryz.prog 32 #[.int .i64 x] w' fun e w'' => e = .returned (.string ⟨(decN x.toNat).toArray⟩) ∧ Below w'.heap.size w' w'')
  (HO : ∀ (j : Nat) (x : Int), ls[j]? = some x → ∀ w', Below w.heap.size w w' → Calls Tryz.prog 33 #[.agg #[.int .i64 3, .int .i64 sd, .int .i64 st], .int .i64 j, kv q] w' fun e w'' => e = .returned (.bool (on j)) ∧ Below w'.heap.size w' w'')
  (hret : ∀ (j : Nat) (x : Int), ls[j]? = some x → decN x.toNat = b → on j = true → res = .tuple #[.int .i64 j, kv q, .int .i64 0])
  (hend : (∀ (j : Nat) (x : Int), ls[j]? = some x → decN x.toNat = b → on j = false) → res = .tuple #[.int .i64 0, .agg #[.int .i64 0, .int .i64 0, .int .u64 0, .int .u64 0, .string ⟨#[]⟩], .int .i64 14])
  : Calls Tryz.prog 9 #[.agg #[.int .i64 3, .int .i64 sd, .int .i64 st], .string ⟨t.toArray⟩] w fun e w' => e = .returned res ∧ Below w.heap.size w w' := by
 have HRT := Lib.hid hret
 have HEN := Lib.hid hend
 have HNN := Lib.hid HN
 have HOO := Lib.hid HO
 clear hret hend HN HO
 unfold kv at *
 have hsz := bsz t
 have hat : t[m]? = some 47 := by rw [ht, hm]; exact last_at a b
 have hno : ∀ j : Nat, m < j → ∀ x, t[j]? = some x → x ≠ 47 := fun j hj x hx => by rw [ht] at hx; rw [hm] at hj; exact last_no a b hb j hj x hx
 have hlen : m + 1 + b.length = t.length := by rw [ht, hm, List.length_append, List.length_cons]; omega
 have hx1 : (⟨t.toArray⟩ : ByteArray).extract (m + 1) t.length = ⟨b.toArray⟩ := by
  rw [ext_l, List.take_length, ht, hm, ← List.drop_drop, List.drop_left]; rfl
 have hx0 : (⟨t.toArray⟩ : ByteArray).extract 0 m = ⟨a.toArray⟩ := by
  rw [ext_l, ht, hm, List.take_left]; rfl
 have hml : m < t.length := by omega
 have HAT := Lib.hid hat
 have HNO := Lib.hid hno
 clear hat hno ht hm hb
 obtain ⟨Rc, Rr, hb0⟩ := two_rows w #[.int .i64 3, .int .i64 sd, .int .i64 st] #[.int .i64 0, .int .i64 0, .int .u64 0, .int .u64 0, .string ⟨#[]⟩] 23 26
 (try clear c0 c1 c2); obtain ⟨c0, c1, c2⟩ := row3 Rc
 (try clear r0 r1 r2 r3 r4); obtain ⟨r0, r1, r2, r3, r4⟩ := row5 Rr
 go_enter Tryz.func9, Tryz.ntmps9
 go_wp2_with fail
 refine (HR _ hb0).mono ?_
 rintro e w1 ⟨rfl, hb⟩
 replace Rc := Rc.later hb
 replace Rr := Rr.later hb
 replace hb0 := below_step hb0 hb
 clear hb
 have lc := Rc.lt
 have lr := Rr.lt
 (try clear c0 c1 c2); obtain ⟨c0, c1, c2⟩ := row3 Rc
 (try clear r0 r1 r2 r3 r4); obtain ⟨r0, r1, r2, r3, r4⟩ := row5 Rr
 go_wp2_with fail
 go_loopw [7] (fun x wr => ∃ j : Nat, m ≤ j ∧ j < t.length ∧ x = .int .i64 j ∧ wr = w1) (fun x _ => (intOf x).toNat)
 case atStart => exact ⟨t.length - 1, by omega, by omega, by congr 1 <;> omega, rfl⟩
 case round =>
  obtain ⟨j, hmj, hj, rfl, rfl⟩ := hrel
  obtain ⟨c, hlj⟩ : ∃ c, t[j]? = some c := ⟨t[j], List.getElem?_eq_getElem hj⟩
  have hsp : j < (⟨t.toArray⟩ : ByteArray).size := by rw [hsz]; exact hj
  have hch : (⟨t.toArray⟩ : ByteArray)[j]'hsp = c := by
   have := (List.getElem?_eq_some_iff.1 hlj).2
   exact this
  by_cases hjm : m < j
  ·have n47 : ¬ (c.toNat : Int) = 47 := fun e => HNO.out j hjm c hlj (UInt8.toNat.inj (by rw [show (47 : UInt8).toNat = 47 from rfl]; omega))
   clear hlj
   have e47 : ((c.toNat : Int) == 47) = false := by simpa using n47
   have x47 : ((c.toNat : Int) != 47) = true := by simpa using n47
   go_wp2_with fail
   exact ⟨⟨j - 1, by omega, by omega, by congr 1 <;> omega, by first | rfl | trivial⟩, by simp [intOf] <;> omega⟩
  ·obtain rfl : j = m := by omega
   rw [HAT.out] at hlj
   obtain rfl : (47 : UInt8) = c := by cases hlj; rfl
   have hjle : j ≤ t.length := by omega
   clear hlj HAT HNO hjm hmj
   go_wp2_with fail
   refine (HI _ hb0).mono ?_
   rintro e wh ⟨rfl, hb⟩
   replace Rc := Rc.later hb
   replace Rr := Rr.later hb
   replace hb0 := below_step hb0 hb
   clear hb
   have lr := Rr.lt
   (try clear c0 c1 c2); obtain ⟨c0, c1, c2⟩ := row3 Rc
   (try clear r0 r1 r2 r3 r4); obtain ⟨r0, r1, r2, r3, r4⟩ := row5 Rr
   go_wp2_with fail
   have hbW := hb0
   have lwr := lr
   replace hb0 := Below.refl wh.heap.size wh
   go_cut [8, 9] (fun s8 s9 wx => ∃ gb : Nat, s8 = .pointer (some ⟨gb, 0, none⟩) ∧ s9 = .bool true ∧ wh.heap.size ≤ gb ∧ Row wx gb #[.int .i64 q.kind, .int .i64 q.len, .int .u64 q.h, .int .u64 q.l, .string ⟨q.path.toArray⟩] 26 ∧ Row wx w.heap.size #[.int .i64 3, .int .i64 sd, .int .i64 st] 23 ∧ Row wx (w.heap.size + 1) #[.int .i64 0, .int .i64 0, .int .u64 0, .int .u64 0, .string ⟨#[]⟩] 26 ∧ Below wh.heap.size wh wx)
   case first =>
    refine wp_region_held_drew (S := (fun w' => w'.cell? ⟨w.heap.size, 0, none⟩ = some (Value.int .i64 3))) (by kernel_rfl) ?hSr1_ (fun hH => ?_)
    case hSr1_ => (exact c0)
    (clear c0 c1 c2 r0 r1 r2 r3 r4; (replace Rc := Rc.drew); (replace Rr := Rr.drew); (replace hb0 := hb0.drew); (generalize World.drew wh = wq at *))
    refine tk 0 ⟨some 42, .fieldAddr 23 (.tmp 2) 0, 0, _, _, _⟩ hH ?_
    refine tk 1 ⟨some 43, .load 3 (.tmp 42), 3, _, _, _⟩ hH ?_
    refine tk 2 ⟨some 44, .move (.tmp 1), 9, _, _, _⟩ hH ?_
    refine tk 3 ⟨some 45, .move (.tmp 7), 3, _, _, _⟩ hH ?_
    refine tk 4 ⟨some 46, .slice 9 (.tmp 44) none (some (.tmp 45)) none, 9, _, _, _⟩ hH ?_
    refine wpAnyH_ready (rs := [5, 9]) (by kernel_rfl) (by simp) ?_
    refine AllReadyH.cons (o := ⟨some 47, .call { callee := .value (.func 30), args := #[.tmp 43, .tmp 46], argTypes := #[3, 9] }, 60, _, _, _⟩) rfl (fun K hK => ?_) ?_
    ·(go_simp; (refine (HW _ (below_step hbW hb0)).mono ?_); (rintro e wz ⟨rfl, hb⟩); (replace Rc := Rc.later hb); (replace Rr := Rr.later hb); (try replace Rb := Rb.later hb); (replace hb0 := below_step hb0 hb); go_wp2_with fail)
     refine hK.out _ _ ?hSr1_6_5 fun _ => ?_
     case hSr1_6_5 => (exact cl hb hH)
     clear hK K hH; rename_i hH
     rename World => wq
     (try simp only [Act.put, nz1, nz2, nz3])
     refine tk 6 ⟨some 41, .move (.tmp 47), 60, _, _, _⟩ hH ?_
     refine tk 7 ⟨some 48, .extract (.tmp 41) 0, 26, _, _, _⟩ hH ?_
     refine tk 8 ⟨some 49, .extract (.tmp 41) 1, 4, _, _, _⟩ hH ?_
     refine wpAnyH_ready (rs := [9]) (by kernel_rfl) (by simp) ?_
     refine AllReadyH.cons (o := ⟨some 8, .alloc 26, 0, _, _, _⟩) rfl (fun K hK => ?_) AllReadyH.nil
     (go_simp; (have mb := hb0.size); (have nb_c := Rc.lt); (have nb_r := Rr.lt); (have Rb := Row.new wq #[.int .i64 0, .int .i64 0, .int .u64 0, .int .u64 0, .string ⟨#[]⟩] 26); (have hb : Below wq.heap.size wq (World.alloc wq (.cells #[.int .i64 0, .int .i64 0, .int .u64 0, .int .u64 0, .string ⟨#[]⟩] 26)) := (Below.refl _ _).alloc (Nat.le_refl _) _); (replace Rc := Rc.later hb); (replace Rr := Rr.later hb); (replace hb0 := below_step hb0 hb); (have hSn : (World.alloc wq (.cells #[.int .i64 0, .int .i64 0, .int .u64 0, .int .u64 0, .string ⟨#[]⟩] 26)).cell? ⟨w.heap.size, 0, none⟩ = some (Value.int .i64 3) := by exact cl hb hH); clear hb; generalize World.alloc wq (.cells #[.int .i64 0, .int .i64 0, .int .u64 0, .int .u64 0, .string ⟨#[]⟩] 26) = wz at *; generalize wq.heap.size = gb at *)
     refine hK.out _ _ ?hSr1_10_9 fun _ => ?_
     case hSr1_10_9 => (exact hSn)
     clear hK K hH; rename_i hH
     rename World => wq
     (try simp only [Act.put, nz1, nz2, nz3])
     refine wpAnyH_ready (rs := [10]) (by kernel_rfl) (by simp) ?_
     refine AllReadyH.cons (o := ⟨none, .store 26 (.tmp 8) (.tmp 48), 0, _, _, _⟩) rfl (fun K hK => ?_) AllReadyH.nil
     ((rw [if_pos (by rfl)]); (with_reducible refine pst 26 (.tmp 8) (.tmp 48) ?_ gb 0 #[.int .i64 q.kind, .int .i64 q.len, .int .u64 q.h, .int .u64 q.l, .string ⟨q.path.toArray⟩] ?_ ?_ ?_ ?_ ?_ ?_); rfl; rfl; rfl; (exact Row.thereAt Rb 0 _ (by simp)); (exact infoKe); (simp [Value.oneCell']); (rintro wz hwz); (have hHq := hH); (have c0 := hHq); (replace c0 := pcf hwz c0); (replace Rc := prf hwz Rc); (replace Rr := prf hwz Rr); (replace hb0 := pbl hwz hb0); (replace Rb := psw hwz Rb); clear hwz)
     refine hK.out _ _ ?hSr1_11_10 fun _ => ?_
     case hSr1_11_10 => (exact c0)
     clear hK K hH; rename_i hH
     rename World => wq
     (try simp only [Act.put, nz1, nz2, nz3])
     refine tk 11 ⟨some 9, .assign (.tmp 49), 4, _, _, _⟩ hH ?_
     refine wpAnyH_done (by kernel_rfl) ?_ _
     (go_wp2_with fail; go_meet; exact ⟨gb, rfl, rfl, mb, Rb, Rc, Rr, hb0⟩)
    refine AllReadyH.cons (o := ⟨some 8, .alloc 26, 0, _, _, _⟩) rfl (fun K hK => ?_) AllReadyH.nil
    ·(go_simp; (have mb := hb0.size); (have nb_c := Rc.lt); (have nb_r := Rr.lt); (have Rb := Row.new wq #[.int .i64 0, .int .i64 0, .int .u64 0, .int .u64 0, .string ⟨#[]⟩] 26); (have hb : Below wq.heap.size wq (World.alloc wq (.cells #[.int .i64 0, .int .i64 0, .int .u64 0, .int .u64 0, .string ⟨#[]⟩] 26)) := (Below.refl _ _).alloc (Nat.le_refl _) _); (replace Rc := Rc.later hb); (replace Rr := Rr.later hb); (replace hb0 := below_step hb0 hb); (have hSn : (World.alloc wq (.cells #[.int .i64 0, .int .i64 0, .int .u64 0, .int .u64 0, .string ⟨#[]⟩] 26)).cell? ⟨w.heap.size, 0, none⟩ = some (Value.int .i64 3) := by exact cl hb hH); clear hb; generalize World.alloc wq (.cells #[.int .i64 0, .int .i64 0, .int .u64 0, .int .u64 0, .string ⟨#[]⟩] 26) = wz at *; generalize wq.heap.size = gb at *)
     refine hK.out _ _ ?hSr1_13_9 fun _ => ?_
     case hSr1_13_9 => (exact hSn)
     clear hK K hH; rename_i hH
     rename World => wq
     (try simp only [Act.put, nz1, nz2, nz3])
     refine wpAnyH_ready (rs := [5]) (by kernel_rfl) (by simp) ?_
     refine AllReadyH.cons (o := ⟨some 47, .call { callee := .value (.func 30), args := #[.tmp 43, .tmp 46], argTypes := #[3, 9] }, 60, _, _, _⟩) rfl (fun K hK => ?_) AllReadyH.nil
     (go_simp; (refine (HW _ (below_step hbW hb0)).mono ?_); (rintro e wz ⟨rfl, hb⟩); (replace Rc := Rc.later hb); (replace Rr := Rr.later hb); (try replace Rb := Rb.later hb); (replace hb0 := below_step hb0 hb); go_wp2_with fail)
     refine hK.out _ _ ?hSr1_14_5 fun _ => ?_
     case hSr1_14_5 => (exact cl hb hH)
     clear hK K hH; rename_i hH
     rename World => wq
     (try simp only [Act.put, nz1, nz2, nz3])
     refine tk 6 ⟨some 41, .move (.tmp 47), 60, _, _, _⟩ hH ?_
     refine tk 7 ⟨some 48, .extract (.tmp 41) 0, 26, _, _, _⟩ hH ?_
     refine tk 8 ⟨some 49, .extract (.tmp 41) 1, 4, _, _, _⟩ hH ?_
     refine wpAnyH_ready (rs := [10]) (by kernel_rfl) (by simp) ?_
     refine AllReadyH.cons (o := ⟨none, .store 26 (.tmp 8) (.tmp 48), 0, _, _, _⟩) rfl (fun K hK => ?_) AllReadyH.nil
     ((rw [if_pos (by rfl)]); (with_reducible refine pst 26 (.tmp 8) (.tmp 48) ?_ gb 0 #[.int .i64 q.kind, .int .i64 q.len, .int .u64 q.h, .int .u64 q.l, .string ⟨q.path.toArray⟩] ?_ ?_ ?_ ?_ ?_ ?_); rfl; rfl; rfl; (exact Row.thereAt Rb 0 _ (by simp)); (exact infoKe); (simp [Value.oneCell']); (rintro wz hwz); (have hHq := hH); (have c0 := hHq); (replace c0 := pcf hwz c0); (replace Rc := prf hwz Rc); (replace Rr := prf hwz Rr); (replace hb0 := pbl hwz hb0); (replace Rb := psw hwz Rb); clear hwz)
     refine hK.out _ _ ?hSr1_18_10 fun _ => ?_
     case hSr1_18_10 => (exact c0)
     clear hK K hH; rename_i hH
     rename World => wq
     (try simp only [Act.put, nz1, nz2, nz3])
     refine tk 11 ⟨some 9, .assign (.tmp 49), 4, _, _, _⟩ hH ?_
     refine wpAnyH_done (by kernel_rfl) ?_ _
     (go_wp2_with fail; go_meet; exact ⟨gb, rfl, rfl, mb, Rb, Rc, Rr, hb0⟩)
   case rest =>
    clear c0 c1 c2 r0 r1 r2 r3 r4 Rc Rr hb0
    obtain ⟨gb, rfl, rfl, mb, Rb, Rc, Rr, hb0⟩ := hcut
    rename World => w2
    have lc := Rc.lt
    have lr := Rr.lt
    have lb := Rb.lt
    (try clear c0 c1 c2); obtain ⟨c0, c1, c2⟩ := row3 Rc
    (try clear r0 r1 r2 r3 r4); obtain ⟨r0, r1, r2, r3, r4⟩ := row5 Rr
    (try clear b0 b1 b2 b3 b4); obtain ⟨b0, b1, b2, b3, b4⟩ := row5 Rb
    replace hb0 := below_step hbW hb0
    go_wp2_with fail
    refine (HL _ hb0).mono ?_
    rintro e w3 ⟨v, rfl, ⟨p, cc, rfl, h3z, h4⟩, hb⟩
    replace Rc := Rc.later hb
    replace Rr := Rr.later hb
    replace Rb := Rb.later hb
    replace hb0 := below_step hb0 hb
    clear hb
    have lc := Rc.lt
    have lr := Rr.lt
    have lb := Rb.lt
    (try clear c0 c1 c2); obtain ⟨c0, c1, c2⟩ := row3 Rc
    (try clear r0 r1 r2 r3 r4); obtain ⟨r0, r1, r2, r3, r4⟩ := row5 Rr
    (try clear b0 b1 b2 b3 b4); obtain ⟨b0, b1, b2, b3, b4⟩ := row5 Rb
    obtain ⟨g, o, rfl, hg, hC⟩ := h4 (by omega)
    rw [hN] at h3z
    rw [hN]
    have HCC := Lib.hid hC
    clear h4 hC
    have hbW3 := hb0
    go_wp2_with fail
    go_loopw [11] (fun i wr2 => ∃ j : Nat, j ≤ N ∧ i = .int .i64 j ∧ Hid (∀ (t : Nat) (x : Int), t < j → ls[t]? = some x → decN x.toNat = b → on t = false) ∧ Below (Array.size (World.heap w3)) w3 wr2) (fun i _ => N - (intOf i).toNat)
    case atStart => exact ⟨0, by omega, rfl, Lib.hid (fun t x h => by omega), Below.refl _ _⟩
    case round =>
     obtain ⟨i2, hi2, rfl, hz, hbz⟩ := hrel
     replace Rc := Rc.later hbz
     replace Rr := Rr.later hbz
     replace Rb := Rb.later hbz
     have lwr3 := lr
     clear lr lc lb
     have lr := Rr.lt
     have lc := Rc.lt
     have lb := Rb.lt
     by_cases hlt : i2 < N
     ·skip
      obtain ⟨lj, hlj⟩ : ∃ x, ls[i2]? = some x := ⟨ls[i2]'(by omega), List.getElem?_eq_getElem (by omega)⟩
      have m0 := cl hbz (HCC.out i2 lj hlj)
      have lm := World.block_lt_of_cell? _ _ m0
      dsimp only at lm
      have HN1 := HNN.out i2 lj hlj
      have HO1 := HOO.out i2 lj hlj
      have hi2n : (i2 : Int) < N := by omega
      replace hb0 := hbz
      (try clear c0 c1 c2); obtain ⟨c0, c1, c2⟩ := row3 Rc
      (try clear r0 r1 r2 r3 r4); obtain ⟨r0, r1, r2, r3, r4⟩ := row5 Rr
      (try clear b0 b1 b2 b3 b4); obtain ⟨b0, b1, b2, b3, b4⟩ := row5 Rb
      have hwj : IntKind.i64.wrap ((j : Int) + 1) = (j : Int) + 1 := by rw [IntKind.wrap_i64]; omega
      have hj0 : (0 : Int) ≤ (j : Int) + 1 := by omega
      have hj1 : (j : Int) + 1 ≤ t.length := by omega
      have hjt : ((j : Int) + 1).toNat = j + 1 := by omega
      by_cases heq : decN lj.toNat = b
      ·skip
       rw [heq] at HN1
       cases hon : on i2 with
       | false =>
        rw [hon] at HO1
        go_wp2_with fail
        refine wp_region_held_drew (S := (fun w' => w'.cell? ⟨g, o + i2, none⟩ = some (Value.int .i64 lj))) (by kernel_rfl) ?hSr2_ (fun hH => ?_)
        case hSr2_ => (exact m0)
        (clear c0 c1 c2 r0 r1 r2 r3 r4 b0 b1 b2 b3 b4; (replace Rc := Rc.drew); (replace Rr := Rr.drew); (replace Rb := Rb.drew); (replace hb0 := hb0.drew); (generalize World.drew wr = wq at *))
        refine tk 0 ⟨some 61, .move (.tmp 10), 62, _, _, _⟩ hH ?_
        refine tk 1 ⟨some 62, .move (.tmp 11), 3, _, _, _⟩ hH ?_
        refine tk 2 ⟨some 63, .indexAddr 62 (.tmp 61) (.tmp 62), 0, _, _, _⟩ hH ?_
        refine tk 3 ⟨some 64, .load 3 (.tmp 63), 3, _, _, _⟩ hH ?_
        refine tk 5 ⟨some 66, .move (.tmp 1), 9, _, _, _⟩ hH ?_
        refine tk 6 ⟨some 67, .move (.tmp 7), 3, _, _, _⟩ hH ?_
        refine tk 7 ⟨some 68, .binOp .add 3 (.tmp 67) (.const (.int .i64 1)) 3, 3, _, _, _⟩ hH ?_
        refine tk 8 ⟨some 69, .slice 9 (.tmp 66) (some (.tmp 68)) none none, 9, _, _, _⟩ hH ?_
        refine wpAnyH_ready (rs := [4]) (by kernel_rfl) (by simp) ?_
        refine AllReadyH.cons (o := ⟨some 65, .call { callee := .value (.func 32), args := #[.tmp 64], argTypes := #[3] }, 9, _, _, _⟩) rfl (fun K hK => ?_) AllReadyH.nil
        (go_simp; (refine (HN1 _ (below_step hbW3 hb0)).mono ?_); (rintro e wz ⟨rfl, hb⟩); (replace Rc := Rc.later hb); (replace Rr := Rr.later hb); (replace Rb := Rb.later hb); (replace hb0 := below_step hb0 hb); go_wp2_with fail)
        refine hK.out _ _ ?hSr2_9_4 fun _ => ?_
        case hSr2_9_4 => (exact cl hb hH)
        clear hK K hH; rename_i hH
        rename World => wq
        (try simp only [Act.put, nz1, nz2, nz3])
        refine tk 9 ⟨some 70, .binOp .neq 9 (.tmp 65) (.tmp 69) 9, 4, _, _, _⟩ hH ?_
        refine wpAnyH_done (by kernel_rfl) ?_ _
        clear hH
        rename World => w4
        have lc := Rc.lt
        have lr := Rr.lt
        have lb := Rb.lt
        (try clear c0 c1 c2); obtain ⟨c0, c1, c2⟩ := row3 Rc
        (try clear r0 r1 r2 r3 r4); obtain ⟨r0, r1, r2, r3, r4⟩ := row5 Rr
        (try clear b0 b1 b2 b3 b4); obtain ⟨b0, b1, b2, b3, b4⟩ := row5 Rb
        go_wp2_with fail
        refine (HO1 _ (below_step hbW3 (hb0.alloc hb0.size _))).mono ?_
        rintro e w5 ⟨rfl, hb⟩
        have nxc := Rc.lt
        have nxr := Rr.lt
        have nxb := Rb.lt
        replace Rc := (Rc.alloc _).later hb
        replace Rr := (Rr.alloc _).later hb
        replace Rb := (Rb.alloc _).later hb
        have Rx := Row.later (Row.new _ _ _) hb
        have mx := hb0.size
        replace hb0 := below_step (hb0.alloc hb0.size _) hb
        clear hb
        generalize w4.heap.size = gx at *
        have lc := Rc.lt
        have lr := Rr.lt
        have lb := Rb.lt
        have lx := Rx.lt
        (try clear c0 c1 c2); obtain ⟨c0, c1, c2⟩ := row3 Rc
        (try clear r0 r1 r2 r3 r4); obtain ⟨r0, r1, r2, r3, r4⟩ := row5 Rr
        (try clear b0 b1 b2 b3 b4); obtain ⟨b0, b1, b2, b3, b4⟩ := row5 Rb
        (try clear x0 x1 x2 x3 x4); obtain ⟨x0, x1, x2, x3, x4⟩ := row5 Rx
        go_wp2
        exact ⟨⟨i2 + 1, by omega, by go_num, Lib.hid (fun t x ht hx hd => by
          by_cases e : t = i2
          ·rw [e]; exact hon
          ·exact hz.out t x (by omega) hx hd), hb0⟩, by simp [intOf] <;> omega⟩
       | true =>
        rw [hon] at HO1
        have hr := HRT.out i2 lj hlj heq hon
        go_wp2_with fail
        refine wp_region_held_drew (S := (fun w' => w'.cell? ⟨g, o + i2, none⟩ = some (Value.int .i64 lj))) (by kernel_rfl) ?hSr3_ (fun hH => ?_)
        case hSr3_ => (exact m0)
        (clear c0 c1 c2 r0 r1 r2 r3 r4 b0 b1 b2 b3 b4; (replace Rc := Rc.drew); (replace Rr := Rr.drew); (replace Rb := Rb.drew); (replace hb0 := hb0.drew); (generalize World.drew wr = wq at *))
        refine tk 0 ⟨some 61, .move (.tmp 10), 62, _, _, _⟩ hH ?_
        refine tk 1 ⟨some 62, .move (.tmp 11), 3, _, _, _⟩ hH ?_
        refine tk 2 ⟨some 63, .indexAddr 62 (.tmp 61) (.tmp 62), 0, _, _, _⟩ hH ?_
        refine tk 3 ⟨some 64, .load 3 (.tmp 63), 3, _, _, _⟩ hH ?_
        refine tk 5 ⟨some 66, .move (.tmp 1), 9, _, _, _⟩ hH ?_
        refine tk 6 ⟨some 67, .move (.tmp 7), 3, _, _, _⟩ hH ?_
        refine tk 7 ⟨some 68, .binOp .add 3 (.tmp 67) (.const (.int .i64 1)) 3, 3, _, _, _⟩ hH ?_
        refine tk 8 ⟨some 69, .slice 9 (.tmp 66) (some (.tmp 68)) none none, 9, _, _, _⟩ hH ?_
        refine wpAnyH_ready (rs := [4]) (by kernel_rfl) (by simp) ?_
        refine AllReadyH.cons (o := ⟨some 65, .call { callee := .value (.func 32), args := #[.tmp 64], argTypes := #[3] }, 9, _, _, _⟩) rfl (fun K hK => ?_) AllReadyH.nil
        (go_simp; (refine (HN1 _ (below_step hbW3 hb0)).mono ?_); (rintro e wz ⟨rfl, hb⟩); (replace Rc := Rc.later hb); (replace Rr := Rr.later hb); (replace Rb := Rb.later hb); (replace hb0 := below_step hb0 hb); go_wp2_with fail)
        refine hK.out _ _ ?hSr3_9_4 fun _ => ?_
        case hSr3_9_4 => (exact cl hb hH)
        clear hK K hH; rename_i hH
        rename World => wq
        (try simp only [Act.put, nz1, nz2, nz3])
        refine tk 9 ⟨some 70, .binOp .neq 9 (.tmp 65) (.tmp 69) 9, 4, _, _, _⟩ hH ?_
        refine wpAnyH_done (by kernel_rfl) ?_ _
        clear hH
        rename World => w4
        have lc := Rc.lt
        have lr := Rr.lt
        have lb := Rb.lt
        (try clear c0 c1 c2); obtain ⟨c0, c1, c2⟩ := row3 Rc
        (try clear r0 r1 r2 r3 r4); obtain ⟨r0, r1, r2, r3, r4⟩ := row5 Rr
        (try clear b0 b1 b2 b3 b4); obtain ⟨b0, b1, b2, b3, b4⟩ := row5 Rb
        go_wp2_with fail
        refine (HO1 _ (below_step hbW3 (hb0.alloc hb0.size _))).mono ?_
        rintro e w5 ⟨rfl, hb⟩
        have nxc := Rc.lt
        have nxr := Rr.lt
        have nxb := Rb.lt
        replace Rc := (Rc.alloc _).later hb
        replace Rr := (Rr.alloc _).later hb
        replace Rb := (Rb.alloc _).later hb
        have Rx := Row.later (Row.new _ _ _) hb
        have mx := hb0.size
        replace hb0 := below_step (hb0.alloc hb0.size _) hb
        clear hb
        generalize w4.heap.size = gx at *
        have lc := Rc.lt
        have lr := Rr.lt
        have lb := Rb.lt
        have lx := Rx.lt
        (try clear c0 c1 c2); obtain ⟨c0, c1, c2⟩ := row3 Rc
        (try clear r0 r1 r2 r3 r4); obtain ⟨r0, r1, r2, r3, r4⟩ := row5 Rr
        (try clear b0 b1 b2 b3 b4); obtain ⟨b0, b1, b2, b3, b4⟩ := row5 Rb
        (try clear x0 x1 x2 x3 x4); obtain ⟨x0, x1, x2, x3, x4⟩ := row5 Rx
        replace hb0 := below_step hbW3 hb0
        go_wp2_with fail
        refine wp_region_held_drew (S := (fun w' => Row w' gx #[.int .i64 q.kind, .int .i64 q.len, .int .u64 q.h, .int .u64 q.l, .string ⟨q.path.toArray⟩] 26)) (by kernel_rfl) ?hSr4_ (fun hH => ?_)
        case hSr4_ => (exact Rx.drew)
        (clear c0 c1 c2 r0 r1 r2 r3 r4 b0 b1 b2 b3 b4 x0 x1 x2 x3 x4; (replace Rc := Rc.drew); (replace Rr := Rr.drew); (replace Rb := Rb.drew); (replace Rx := Rx.drew); (replace hb0 := hb0.drew); (generalize World.drew w5 = wq at *))
        refine tk 0 ⟨some 84, .move (.tmp 11), 3, _, _, _⟩ hH ?_
        refine tk 1 ⟨some 85, .load 26 (.tmp 12), 26, _, _, _⟩ hH ?_ (v := ?vr4_2_1) (hy := ?yr4_2_1)
        case yr4_2_1 => (intro wy hSw; have Qx := hSw; (with_reducible refine pexec_load 26 (.tmp 12) ?_ gx ?_ 26 #[.int .i64 q.kind, .int .i64 q.len, .int .u64 q.h, .int .u64 q.l, .string ⟨q.path.toArray⟩] _ Qx Tryz.underlying26 ?_ ?_) <;> first | rfl | exact infoKe)
        refine tk 2 ⟨some 4, .assign (.tmp 84), 3, _, _, _⟩ hH ?_
        refine wpAnyH_ready (rs := [3]) (by kernel_rfl) (by simp) ?_
        refine AllReadyH.cons (o := ⟨none, .store 26 (.tmp 5) (.tmp 85), 0, _, _, _⟩) rfl (fun K hK => ?_) AllReadyH.nil
        ((rw [if_pos (by rfl)]); (with_reducible refine pst 26 (.tmp 5) (.tmp 85) ?_ (w.heap.size + 1) 0 #[.int .i64 q.kind, .int .i64 q.len, .int .u64 q.h, .int .u64 q.l, .string ⟨q.path.toArray⟩] ?_ ?_ ?_ ?_ ?_ ?_); rfl; rfl; rfl; (exact Row.thereAt Rr 0 _ (by simp)); (exact infoKe); (simp [Value.oneCell']); (rintro wz hwz); (have hHq := hH); (have Qx := hHq); (replace Qx := prf hwz Qx); (replace Rc := prf hwz Rc); (replace Rb := prf hwz Rb); (replace Rx := prf hwz Rx); (replace hb0 := pbl hwz hb0); (replace Rr : Row wz (w.heap.size + 1) #[.int .i64 q.kind, .int .i64 q.len, .int .u64 q.h, .int .u64 q.l, .string ⟨q.path.toArray⟩] 26 := psm hwz Rr (by simp [setL])); clear hwz)
        refine hK.out _ _ ?hSr4_4_3 fun _ => ?_
        case hSr4_4_3 => (exact Qx)
        clear hK K hH; rename_i hH
        rename World => wq
        (try simp only [Act.put, nz1, nz2, nz3])
        refine tk 4 ⟨some 6, .assign (.const (.int .i64 0)), 27, _, _, _⟩ hH ?_
        refine wpAnyH_done (by kernel_rfl) ?_ _
        clear hH
        rename World => w6
        have lc := Rc.lt
        have lr := Rr.lt
        have lb := Rb.lt
        have lx := Rx.lt
        (try clear c0 c1 c2); obtain ⟨c0, c1, c2⟩ := row3 Rc
        (try clear r0 r1 r2 r3 r4); obtain ⟨r0, r1, r2, r3, r4⟩ := row5 Rr
        (try clear b0 b1 b2 b3 b4); obtain ⟨b0, b1, b2, b3, b4⟩ := row5 Rb
        (try clear x0 x1 x2 x3 x4); obtain ⟨x0, x1, x2, x3, x4⟩ := row5 Rx
        go_wp2
        refine bodyPost_ret (v := .tuple #[.int .i64 i2, .agg #[.int .i64 q.kind, .int .i64 q.len, .int .u64 q.h, .int .u64 q.l, .string ⟨q.path.toArray⟩], .int .i64 0]) (by simp [results, Tryz.results9, go_sem, r0, r1, r2, r3, r4]) rfl ⟨by rw [hr], hb0⟩
      ·skip
       have hAn : ¬ (⟨(decN lj.toNat).toArray⟩ : ByteArray) = ⟨b.toArray⟩ := fun e => heq (by have := congrArg (fun z : ByteArray => z.data.toList) e; simpa using this)
       have HQ := Lib.hid heq
       clear heq
       generalize (⟨(decN lj.toNat).toArray⟩ : ByteArray) = A at HN1 hAn
       have hAl : ¬ A.toList = b := fun e => ba_ne hAn (e.trans (bytes_list b).symm)
       have hAb : (A.toList == b) = false := beq_eq_false_iff_ne.2 hAl
       go_wp2_with fail
       refine wp_region_held_drew (S := (fun w' => w'.cell? ⟨g, o + i2, none⟩ = some (Value.int .i64 lj))) (by kernel_rfl) ?hSr5_ (fun hH => ?_)
       case hSr5_ => (exact m0)
       (clear c0 c1 c2 r0 r1 r2 r3 r4 b0 b1 b2 b3 b4; (replace Rc := Rc.drew); (replace Rr := Rr.drew); (replace Rb := Rb.drew); (replace hb0 := hb0.drew); (generalize World.drew wr = wq at *))
       refine tk 0 ⟨some 61, .move (.tmp 10), 62, _, _, _⟩ hH ?_
       refine tk 1 ⟨some 62, .move (.tmp 11), 3, _, _, _⟩ hH ?_
       refine tk 2 ⟨some 63, .indexAddr 62 (.tmp 61) (.tmp 62), 0, _, _, _⟩ hH ?_
       refine tk 3 ⟨some 64, .load 3 (.tmp 63), 3, _, _, _⟩ hH ?_
       refine tk 5 ⟨some 66, .move (.tmp 1), 9, _, _, _⟩ hH ?_
       refine tk 6 ⟨some 67, .move (.tmp 7), 3, _, _, _⟩ hH ?_
       refine tk 7 ⟨some 68, .binOp .add 3 (.tmp 67) (.const (.int .i64 1)) 3, 3, _, _, _⟩ hH ?_
       refine tk 8 ⟨some 69, .slice 9 (.tmp 66) (some (.tmp 68)) none none, 9, _, _, _⟩ hH ?_
       refine wpAnyH_ready (rs := [4]) (by kernel_rfl) (by simp) ?_
       refine AllReadyH.cons (o := ⟨some 65, .call { callee := .value (.func 32), args := #[.tmp 64], argTypes := #[3] }, 9, _, _, _⟩) rfl (fun K hK => ?_) AllReadyH.nil
       (go_simp; (refine (HN1 _ (below_step hbW3 hb0)).mono ?_); (rintro e wz ⟨rfl, hb⟩); (replace Rc := Rc.later hb); (replace Rr := Rr.later hb); (replace Rb := Rb.later hb); (replace hb0 := below_step hb0 hb); go_wp2_with fail)
       refine hK.out _ _ ?hSr5_9_4 fun _ => ?_
       case hSr5_9_4 => (exact cl hb hH)
       clear hK K hH; rename_i hH
       rename World => wq
       (try simp only [Act.put, nz1, nz2, nz3])
       refine tk 9 ⟨some 70, .binOp .neq 9 (.tmp 65) (.tmp 69) 9, 4, _, _, _⟩ hH ?_
       refine wpAnyH_done (by kernel_rfl) ?_ _
       clear hH
       rename World => w4
       have lc := Rc.lt
       have lr := Rr.lt
       have lb := Rb.lt
       (try clear c0 c1 c2); obtain ⟨c0, c1, c2⟩ := row3 Rc
       (try clear r0 r1 r2 r3 r4); obtain ⟨r0, r1, r2, r3, r4⟩ := row5 Rr
       (try clear b0 b1 b2 b3 b4); obtain ⟨b0, b1, b2, b3, b4⟩ := row5 Rb
       go_wp2
       exact ⟨⟨i2 + 1, by omega, by go_num, Lib.hid (fun t x ht hx hd => by
         by_cases e : t = i2
         ·exact absurd (by rw [e, hlj] at hx; cases hx; exact hd) HQ.out
         ·exact hz.out t x (by omega) hx hd), hb0⟩, by simp [intOf] <;> omega⟩
     ·skip
      have hr := HEN.out (fun t x hx hd => hz.out t x (by have := (List.getElem?_eq_some_iff.1 hx).1; omega) hx hd)
      replace hb0 := below_step hb0 hbz
      (try clear c0 c1 c2); obtain ⟨c0, c1, c2⟩ := row3 Rc
      (try clear r0 r1 r2 r3 r4); obtain ⟨r0, r1, r2, r3, r4⟩ := row5 Rr
      (try clear b0 b1 b2 b3 b4); obtain ⟨b0, b1, b2, b3, b4⟩ := row5 Rb
      obtain ⟨rf0, rf1, rf2, rf3, rf4⟩ := fz5 Rr
      go_wp2
      obtain ⟨w5, hwk, hwn⟩ := pnm wr (w.heap.size + 1) 0 [.int .i64 0, .int .i64 0, .int .u64 0, .int .u64 0, .string ⟨#[]⟩]
      simp only [World.setCells] at hwk
      rw [← hwk]; clear hwk
      replace Rr : Row w5 (w.heap.size + 1) #[.int .i64 0, .int .i64 0, .int .u64 0, .int .u64 0, .string ⟨#[]⟩] 26 := psm hwn Rr (by simp [setL])
      replace Rc := prf hwn Rc
      replace Rb := prf hwn Rb
      replace hb0 := pbl hwn hb0
      clear hwn c0 c1 c2 r0 r1 r2 r3 r4 b0 b1 b2 b3 b4
      (try clear rf0 rf1 rf2 rf3 rf4)
      (try clear c0 c1 c2); obtain ⟨c0, c1, c2⟩ := row3 Rc
      (try clear r0 r1 r2 r3 r4); obtain ⟨r0, r1, r2, r3, r4⟩ := row5 Rr
      (try clear b0 b1 b2 b3 b4); obtain ⟨b0, b1, b2, b3, b4⟩ := row5 Rb
      refine bodyPost_ret (v := .tuple #[.int .i64 0, .agg #[.int .i64 0, .int .i64 0, .int .u64 0, .int .u64 0, .string ⟨#[]⟩], .int .i64 14]) (by simp [results, Tryz.results9, go_sem, r0, r1, r2, r3, r4]) rfl ⟨by rw [hr], hb0⟩
theorem rpp_go (kd sd st : Int) (h3 : ¬ kd = 3) (t a b : List UInt8) (m : Nat) (q : Ke) (hl : t.length ≤ 2000000) (ht : t = a ++ 47 :: b) (hm : m = a.length) (hb : (47 : UInt8) ∉ b) (ls : List Int) (N : Nat) (hN : ls.length = N) (h0N : 0 < N) (hN2 : N ≤ 200) (on : Nat → Bool) (res : Value) (w : World)
  (HR : ∀ w', Below w.heap.size w w' → Calls Tryz.prog 28 #[.agg #[.int .i64 kd, .int .i64 sd, .int .i64 st]] w' fun e w'' => e = .returned (.bool true) ∧ Below w'.heap.size w' w'')
  (HI : ∀ w', Below w.heap.size w w' → Calls Tryz.prog 29 #[.string ⟨b.toArray⟩] w' fun e w'' => e = .returned (.bool true) ∧ Below w'.heap.size w' w'')
  (HW : ∀ w', Below w.heap.size w w' → Calls Tryz.prog 30 #[.int .i64 kd, .string ⟨a.toArray⟩] w' fun e w'' => e = .returned (.tuple #[kv q, .bool true]) ∧ Below w'.heap.size w' w'')
  (HL : ∀ w', Below w.heap.size w w' → Calls Tryz.prog 31 #[.agg #[.int .i64 kd, .int .i64 sd, .int .i64 st]] w' fun e w'' => ∃ v, e = .returned v ∧ IS w'' v ls ∧ Below w'.heap.size w' w'')
  (HN : ∀ (j : Nat) (x : Int), ls[j]? = some x → ∀ w', Below w.heap.size w w' → Calls Tryz.prog 32 #[.int .i64 x] w' fun e w'' => e = .returned (.string ⟨(decN x.toNat).toArray⟩) ∧ Below w'.heap.size w' w'')
  (HO : ∀ (j : Nat) (x : Int), ls[j]? = some x → ∀ w', Below w.heap.size w w' → Calls Tryz.prog 33 #[.agg #[.int .i64 kd, .int .i64 sd, .int .i64 st], .int .i64 j, kv (shortK q x)] w' fun e w'' => e = .returned (.bool (on j)) ∧ Below w'.heap.size w' w'')
  (hret : ∀ (j : Nat) (x : Int), ls[j]? = some x → decN x.toNat = b → on j = true → res = .tuple #[.int .i64 j, kv (shortK q x), .int .i64 0])
  (hend : (∀ (j : Nat) (x : Int), ls[j]? = some x → decN x.toNat = b → on j = false) → res = .tuple #[.int .i64 0, .agg #[.int .i64 0, .int .i64 0, .int .u64 0, .int .u64 0, .string ⟨#[]⟩], .int .i64 14])
  : Calls Tryz.prog 9 #[.agg #[.int .i64 kd, .int .i64 sd, .int .i64 st], .string ⟨t.toArray⟩] w fun e w' => e = .returned res ∧ Below w.heap.size w w' := by
 have e3 : (kd == 3) = false := by simpa using h3
 have x3 : (kd != 3) = true := by simpa using h3
 have HRT := Lib.hid hret
 have HEN := Lib.hid hend
 have HNN := Lib.hid HN
 have HOO := Lib.hid HO
 clear hret hend HN HO
 unfold shortK at HRT HOO
 unfold kv at *
 have hsz := bsz t
 have hat : t[m]? = some 47 := by rw [ht, hm]; exact last_at a b
 have hno : ∀ j : Nat, m < j → ∀ x, t[j]? = some x → x ≠ 47 := fun j hj x hx => by rw [ht] at hx; rw [hm] at hj; exact last_no a b hb j hj x hx
 have hlen : m + 1 + b.length = t.length := by rw [ht, hm, List.length_append, List.length_cons]; omega
 have hx1 : (⟨t.toArray⟩ : ByteArray).extract (m + 1) t.length = ⟨b.toArray⟩ := by
  rw [ext_l, List.take_length, ht, hm, ← List.drop_drop, List.drop_left]; rfl
 have hx0 : (⟨t.toArray⟩ : ByteArray).extract 0 m = ⟨a.toArray⟩ := by
  rw [ext_l, ht, hm, List.take_left]; rfl
 have hml : m < t.length := by omega
 have HAT := Lib.hid hat
 have HNO := Lib.hid hno
 clear hat hno ht hm hb
 obtain ⟨Rc, Rr, hb0⟩ := two_rows w #[.int .i64 kd, .int .i64 sd, .int .i64 st] #[.int .i64 0, .int .i64 0, .int .u64 0, .int .u64 0, .string ⟨#[]⟩] 23 26
 (try clear c0 c1 c2); obtain ⟨c0, c1, c2⟩ := row3 Rc
 (try clear r0 r1 r2 r3 r4); obtain ⟨r0, r1, r2, r3, r4⟩ := row5 Rr
 go_enter Tryz.func9, Tryz.ntmps9
 go_wp2_with fail
 refine (HR _ hb0).mono ?_
 rintro e w1 ⟨rfl, hb⟩
 replace Rc := Rc.later hb
 replace Rr := Rr.later hb
 replace hb0 := below_step hb0 hb
 clear hb
 have lc := Rc.lt
 have lr := Rr.lt
 (try clear c0 c1 c2); obtain ⟨c0, c1, c2⟩ := row3 Rc
 (try clear r0 r1 r2 r3 r4); obtain ⟨r0, r1, r2, r3, r4⟩ := row5 Rr
 go_wp2_with fail
 go_loopw [7] (fun x wr => ∃ j : Nat, m ≤ j ∧ j < t.length ∧ x = .int .i64 j ∧ wr = w1) (fun x _ => (intOf x).toNat)
 case atStart => exact ⟨t.length - 1, by omega, by omega, by congr 1 <;> omega, rfl⟩
 case round =>
  obtain ⟨j, hmj, hj, rfl, rfl⟩ := hrel
  obtain ⟨c, hlj⟩ : ∃ c, t[j]? = some c := ⟨t[j], List.getElem?_eq_getElem hj⟩
  have hsp : j < (⟨t.toArray⟩ : ByteArray).size := by rw [hsz]; exact hj
  have hch : (⟨t.toArray⟩ : ByteArray)[j]'hsp = c := by
   have := (List.getElem?_eq_some_iff.1 hlj).2
   exact this
  by_cases hjm : m < j
  ·have n47 : ¬ (c.toNat : Int) = 47 := fun e => HNO.out j hjm c hlj (UInt8.toNat.inj (by rw [show (47 : UInt8).toNat = 47 from rfl]; omega))
   clear hlj
   have e47 : ((c.toNat : Int) == 47) = false := by simpa using n47
   have x47 : ((c.toNat : Int) != 47) = true := by simpa using n47
   go_wp2_with fail
   exact ⟨⟨j - 1, by omega, by omega, by congr 1 <;> omega, by first | rfl | trivial⟩, by simp [intOf] <;> omega⟩
  ·obtain rfl : j = m := by omega
   rw [HAT.out] at hlj
   obtain rfl : (47 : UInt8) = c := by cases hlj; rfl
   have hjle : j ≤ t.length := by omega
   clear hlj HAT HNO hjm hmj
   go_wp2_with fail
   refine (HI _ hb0).mono ?_
   rintro e wh ⟨rfl, hb⟩
   replace Rc := Rc.later hb
   replace Rr := Rr.later hb
   replace hb0 := below_step hb0 hb
   clear hb
   have lr := Rr.lt
   (try clear c0 c1 c2); obtain ⟨c0, c1, c2⟩ := row3 Rc
   (try clear r0 r1 r2 r3 r4); obtain ⟨r0, r1, r2, r3, r4⟩ := row5 Rr
   go_wp2_with fail
   have hbW := hb0
   have lwr := lr
   replace hb0 := Below.refl wh.heap.size wh
   go_cut [8, 9] (fun s8 s9 wx => ∃ gb : Nat, s8 = .pointer (some ⟨gb, 0, none⟩) ∧ s9 = .bool true ∧ wh.heap.size ≤ gb ∧ Row wx gb #[.int .i64 q.kind, .int .i64 q.len, .int .u64 q.h, .int .u64 q.l, .string ⟨q.path.toArray⟩] 26 ∧ Row wx w.heap.size #[.int .i64 kd, .int .i64 sd, .int .i64 st] 23 ∧ Row wx (w.heap.size + 1) #[.int .i64 0, .int .i64 0, .int .u64 0, .int .u64 0, .string ⟨#[]⟩] 26 ∧ Below wh.heap.size wh wx)
   case first =>
    refine wp_region_held_drew (S := (fun w' => w'.cell? ⟨w.heap.size, 0, none⟩ = some (Value.int .i64 kd))) (by kernel_rfl) ?hSr6_ (fun hH => ?_)
    case hSr6_ => (exact c0)
    (clear c0 c1 c2 r0 r1 r2 r3 r4; (replace Rc := Rc.drew); (replace Rr := Rr.drew); (replace hb0 := hb0.drew); (generalize World.drew wh = wq at *))
    refine tk 0 ⟨some 42, .fieldAddr 23 (.tmp 2) 0, 0, _, _, _⟩ hH ?_
    refine tk 1 ⟨some 43, .load 3 (.tmp 42), 3, _, _, _⟩ hH ?_
    refine tk 2 ⟨some 44, .move (.tmp 1), 9, _, _, _⟩ hH ?_
    refine tk 3 ⟨some 45, .move (.tmp 7), 3, _, _, _⟩ hH ?_
    refine tk 4 ⟨some 46, .slice 9 (.tmp 44) none (some (.tmp 45)) none, 9, _, _, _⟩ hH ?_
    refine wpAnyH_ready (rs := [5, 9]) (by kernel_rfl) (by simp) ?_
    refine AllReadyH.cons (o := ⟨some 47, .call { callee := .value (.func 30), args := #[.tmp 43, .tmp 46], argTypes := #[3, 9] }, 60, _, _, _⟩) rfl (fun K hK => ?_) ?_
    ·(go_simp; (refine (HW _ (below_step hbW hb0)).mono ?_); (rintro e wz ⟨rfl, hb⟩); (replace Rc := Rc.later hb); (replace Rr := Rr.later hb); (try replace Rb := Rb.later hb); (replace hb0 := below_step hb0 hb); go_wp2_with fail)
     refine hK.out _ _ ?hSr6_6_5 fun _ => ?_
     case hSr6_6_5 => (exact cl hb hH)
     clear hK K hH; rename_i hH
     rename World => wq
     (try simp only [Act.put, nz1, nz2, nz3])
     refine tk 6 ⟨some 41, .move (.tmp 47), 60, _, _, _⟩ hH ?_
     refine tk 7 ⟨some 48, .extract (.tmp 41) 0, 26, _, _, _⟩ hH ?_
     refine tk 8 ⟨some 49, .extract (.tmp 41) 1, 4, _, _, _⟩ hH ?_
     refine wpAnyH_ready (rs := [9]) (by kernel_rfl) (by simp) ?_
     refine AllReadyH.cons (o := ⟨some 8, .alloc 26, 0, _, _, _⟩) rfl (fun K hK => ?_) AllReadyH.nil
     (go_simp; (have mb := hb0.size); (have nb_c := Rc.lt); (have nb_r := Rr.lt); (have Rb := Row.new wq #[.int .i64 0, .int .i64 0, .int .u64 0, .int .u64 0, .string ⟨#[]⟩] 26); (have hb : Below wq.heap.size wq (World.alloc wq (.cells #[.int .i64 0, .int .i64 0, .int .u64 0, .int .u64 0, .string ⟨#[]⟩] 26)) := (Below.refl _ _).alloc (Nat.le_refl _) _); (replace Rc := Rc.later hb); (replace Rr := Rr.later hb); (replace hb0 := below_step hb0 hb); (have hSn : (World.alloc wq (.cells #[.int .i64 0, .int .i64 0, .int .u64 0, .int .u64 0, .string ⟨#[]⟩] 26)).cell? ⟨w.heap.size, 0, none⟩ = some (Value.int .i64 kd) := by exact cl hb hH); clear hb; generalize World.alloc wq (.cells #[.int .i64 0, .int .i64 0, .int .u64 0, .int .u64 0, .string ⟨#[]⟩] 26) = wz at *; generalize wq.heap.size = gb at *)
     refine hK.out _ _ ?hSr6_10_9 fun _ => ?_
     case hSr6_10_9 => (exact hSn)
     clear hK K hH; rename_i hH
     rename World => wq
     (try simp only [Act.put, nz1, nz2, nz3])
     refine wpAnyH_ready (rs := [10]) (by kernel_rfl) (by simp) ?_
     refine AllReadyH.cons (o := ⟨none, .store 26 (.tmp 8) (.tmp 48), 0, _, _, _⟩) rfl (fun K hK => ?_) AllReadyH.nil
     ((rw [if_pos (by rfl)]); (with_reducible refine pst 26 (.tmp 8) (.tmp 48) ?_ gb 0 #[.int .i64 q.kind, .int .i64 q.len, .int .u64 q.h, .int .u64 q.l, .string ⟨q.path.toArray⟩] ?_ ?_ ?_ ?_ ?_ ?_); rfl; rfl; rfl; (exact Row.thereAt Rb 0 _ (by simp)); (exact infoKe); (simp [Value.oneCell']); (rintro wz hwz); (have hHq := hH); (have c0 := hHq); (replace c0 := pcf hwz c0); (replace Rc := prf hwz Rc); (replace Rr := prf hwz Rr); (replace hb0 := pbl hwz hb0); (replace Rb := psw hwz Rb); clear hwz)
     refine hK.out _ _ ?hSr6_11_10 fun _ => ?_
     case hSr6_11_10 => (exact c0)
     clear hK K hH; rename_i hH
     rename World => wq
     (try simp only [Act.put, nz1, nz2, nz3])
     refine tk 11 ⟨some 9, .assign (.tmp 49), 4, _, _, _⟩ hH ?_
     refine wpAnyH_done (by kernel_rfl) ?_ _
     (go_wp2_with fail; go_meet; exact ⟨gb, rfl, rfl, mb, Rb, Rc, Rr, hb0⟩)
    refine AllReadyH.cons (o := ⟨some 8, .alloc 26, 0, _, _, _⟩) rfl (fun K hK => ?_) AllReadyH.nil
    ·(go_simp; (have mb := hb0.size); (have nb_c := Rc.lt); (have nb_r := Rr.lt); (have Rb := Row.new wq #[.int .i64 0, .int .i64 0, .int .u64 0, .int .u64 0, .string ⟨#[]⟩] 26); (have hb : Below wq.heap.size wq (World.alloc wq (.cells #[.int .i64 0, .int .i64 0, .int .u64 0, .int .u64 0, .string ⟨#[]⟩] 26)) := (Below.refl _ _).alloc (Nat.le_refl _) _); (replace Rc := Rc.later hb); (replace Rr := Rr.later hb); (replace hb0 := below_step hb0 hb); (have hSn : (World.alloc wq (.cells #[.int .i64 0, .int .i64 0, .int .u64 0, .int .u64 0, .string ⟨#[]⟩] 26)).cell? ⟨w.heap.size, 0, none⟩ = some (Value.int .i64 kd) := by exact cl hb hH); clear hb; generalize World.alloc wq (.cells #[.int .i64 0, .int .i64 0, .int .u64 0, .int .u64 0, .string ⟨#[]⟩] 26) = wz at *; generalize wq.heap.size = gb at *)
     refine hK.out _ _ ?hSr6_13_9 fun _ => ?_
     case hSr6_13_9 => (exact hSn)
     clear hK K hH; rename_i hH
     rename World => wq
     (try simp only [Act.put, nz1, nz2, nz3])
     refine wpAnyH_ready (rs := [5]) (by kernel_rfl) (by simp) ?_
     refine AllReadyH.cons (o := ⟨some 47, .call { callee := .value (.func 30), args := #[.tmp 43, .tmp 46], argTypes := #[3, 9] }, 60, _, _, _⟩) rfl (fun K hK => ?_) AllReadyH.nil
     (go_simp; (refine (HW _ (below_step hbW hb0)).mono ?_); (rintro e wz ⟨rfl, hb⟩); (replace Rc := Rc.later hb); (replace Rr := Rr.later hb); (try replace Rb := Rb.later hb); (replace hb0 := below_step hb0 hb); go_wp2_with fail)
     refine hK.out _ _ ?hSr6_14_5 fun _ => ?_
     case hSr6_14_5 => (exact cl hb hH)
     clear hK K hH; rename_i hH
     rename World => wq
     (try simp only [Act.put, nz1, nz2, nz3])
     refine tk 6 ⟨some 41, .move (.tmp 47), 60, _, _, _⟩ hH ?_
     refine tk 7 ⟨some 48, .extract (.tmp 41) 0, 26, _, _, _⟩ hH ?_
     refine tk 8 ⟨some 49, .extract (.tmp 41) 1, 4, _, _, _⟩ hH ?_
     refine wpAnyH_ready (rs := [10]) (by kernel_rfl) (by simp) ?_
     refine AllReadyH.cons (o := ⟨none, .store 26 (.tmp 8) (.tmp 48), 0, _, _, _⟩) rfl (fun K hK => ?_) AllReadyH.nil
     ((rw [if_pos (by rfl)]); (with_reducible refine pst 26 (.tmp 8) (.tmp 48) ?_ gb 0 #[.int .i64 q.kind, .int .i64 q.len, .int .u64 q.h, .int .u64 q.l, .string ⟨q.path.toArray⟩] ?_ ?_ ?_ ?_ ?_ ?_); rfl; rfl; rfl; (exact Row.thereAt Rb 0 _ (by simp)); (exact infoKe); (simp [Value.oneCell']); (rintro wz hwz); (have hHq := hH); (have c0 := hHq); (replace c0 := pcf hwz c0); (replace Rc := prf hwz Rc); (replace Rr := prf hwz Rr); (replace hb0 := pbl hwz hb0); (replace Rb := psw hwz Rb); clear hwz)
     refine hK.out _ _ ?hSr6_18_10 fun _ => ?_
     case hSr6_18_10 => (exact c0)
     clear hK K hH; rename_i hH
     rename World => wq
     (try simp only [Act.put, nz1, nz2, nz3])
     refine tk 11 ⟨some 9, .assign (.tmp 49), 4, _, _, _⟩ hH ?_
     refine wpAnyH_done (by kernel_rfl) ?_ _
     (go_wp2_with fail; go_meet; exact ⟨gb, rfl, rfl, mb, Rb, Rc, Rr, hb0⟩)
   case rest =>
    clear c0 c1 c2 r0 r1 r2 r3 r4 Rc Rr hb0
    obtain ⟨gb, rfl, rfl, mb, Rb, Rc, Rr, hb0⟩ := hcut
    rename World => w2
    have lc := Rc.lt
    have lr := Rr.lt
    have lb := Rb.lt
    (try clear c0 c1 c2); obtain ⟨c0, c1, c2⟩ := row3 Rc
    (try clear r0 r1 r2 r3 r4); obtain ⟨r0, r1, r2, r3, r4⟩ := row5 Rr
    (try clear b0 b1 b2 b3 b4); obtain ⟨b0, b1, b2, b3, b4⟩ := row5 Rb
    replace hb0 := below_step hbW hb0
    go_wp2_with fail
    refine (HL _ hb0).mono ?_
    rintro e w3 ⟨v, rfl, ⟨p, cc, rfl, h3z, h4⟩, hb⟩
    replace Rc := Rc.later hb
    replace Rr := Rr.later hb
    replace Rb := Rb.later hb
    replace hb0 := below_step hb0 hb
    clear hb
    have lc := Rc.lt
    have lr := Rr.lt
    have lb := Rb.lt
    (try clear c0 c1 c2); obtain ⟨c0, c1, c2⟩ := row3 Rc
    (try clear r0 r1 r2 r3 r4); obtain ⟨r0, r1, r2, r3, r4⟩ := row5 Rr
    (try clear b0 b1 b2 b3 b4); obtain ⟨b0, b1, b2, b3, b4⟩ := row5 Rb
    obtain ⟨g, o, rfl, hg, hC⟩ := h4 (by omega)
    rw [hN] at h3z
    rw [hN]
    have HCC := Lib.hid hC
    clear h4 hC
    have hbW3 := hb0
    go_wp2_with fail
    go_loopw [11] (fun i wr2 => ∃ j : Nat, j ≤ N ∧ i = .int .i64 j ∧ Hid (∀ (t : Nat) (x : Int), t < j → ls[t]? = some x → decN x.toNat = b → on t = false) ∧ Below (Array.size (World.heap w3)) w3 wr2) (fun i _ => N - (intOf i).toNat)
    case atStart => exact ⟨0, by omega, rfl, Lib.hid (fun t x h => by omega), Below.refl _ _⟩
    case round =>
     obtain ⟨i2, hi2, rfl, hz, hbz⟩ := hrel
     replace Rc := Rc.later hbz
     replace Rr := Rr.later hbz
     replace Rb := Rb.later hbz
     have lwr3 := lr
     clear lr lc lb
     have lr := Rr.lt
     have lc := Rc.lt
     have lb := Rb.lt
     by_cases hlt : i2 < N
     ·skip
      obtain ⟨lj, hlj⟩ : ∃ x, ls[i2]? = some x := ⟨ls[i2]'(by omega), List.getElem?_eq_getElem (by omega)⟩
      have m0 := cl hbz (HCC.out i2 lj hlj)
      have lm := World.block_lt_of_cell? _ _ m0
      dsimp only at lm
      have HN1 := HNN.out i2 lj hlj
      have HO1 := HOO.out i2 lj hlj
      have hi2n : (i2 : Int) < N := by omega
      replace hb0 := hbz
      (try clear c0 c1 c2); obtain ⟨c0, c1, c2⟩ := row3 Rc
      (try clear r0 r1 r2 r3 r4); obtain ⟨r0, r1, r2, r3, r4⟩ := row5 Rr
      (try clear b0 b1 b2 b3 b4); obtain ⟨b0, b1, b2, b3, b4⟩ := row5 Rb
      have hwj : IntKind.i64.wrap ((j : Int) + 1) = (j : Int) + 1 := by rw [IntKind.wrap_i64]; omega
      have hj0 : (0 : Int) ≤ (j : Int) + 1 := by omega
      have hj1 : (j : Int) + 1 ≤ t.length := by omega
      have hjt : ((j : Int) + 1).toNat = j + 1 := by omega
      by_cases heq : decN lj.toNat = b
      ·skip
       rw [heq] at HN1
       cases hon : on i2 with
       | false =>
        rw [hon] at HO1
        go_wp2_with fail
        refine wp_region_held_drew (S := (fun w' => w'.cell? ⟨g, o + i2, none⟩ = some (Value.int .i64 lj))) (by kernel_rfl) ?hSr7_ (fun hH => ?_)
        case hSr7_ => (exact m0)
        (clear c0 c1 c2 r0 r1 r2 r3 r4 b0 b1 b2 b3 b4; (replace Rc := Rc.drew); (replace Rr := Rr.drew); (replace Rb := Rb.drew); (replace hb0 := hb0.drew); (generalize World.drew wr = wq at *))
        refine tk 0 ⟨some 61, .move (.tmp 10), 62, _, _, _⟩ hH ?_
        refine tk 1 ⟨some 62, .move (.tmp 11), 3, _, _, _⟩ hH ?_
        refine tk 2 ⟨some 63, .indexAddr 62 (.tmp 61) (.tmp 62), 0, _, _, _⟩ hH ?_
        refine tk 3 ⟨some 64, .load 3 (.tmp 63), 3, _, _, _⟩ hH ?_
        refine tk 5 ⟨some 66, .move (.tmp 1), 9, _, _, _⟩ hH ?_
        refine tk 6 ⟨some 67, .move (.tmp 7), 3, _, _, _⟩ hH ?_
        refine tk 7 ⟨some 68, .binOp .add 3 (.tmp 67) (.const (.int .i64 1)) 3, 3, _, _, _⟩ hH ?_
        refine tk 8 ⟨some 69, .slice 9 (.tmp 66) (some (.tmp 68)) none none, 9, _, _, _⟩ hH ?_
        refine wpAnyH_ready (rs := [4]) (by kernel_rfl) (by simp) ?_
        refine AllReadyH.cons (o := ⟨some 65, .call { callee := .value (.func 32), args := #[.tmp 64], argTypes := #[3] }, 9, _, _, _⟩) rfl (fun K hK => ?_) AllReadyH.nil
        (go_simp; (refine (HN1 _ (below_step hbW3 hb0)).mono ?_); (rintro e wz ⟨rfl, hb⟩); (replace Rc := Rc.later hb); (replace Rr := Rr.later hb); (replace Rb := Rb.later hb); (replace hb0 := below_step hb0 hb); go_wp2_with fail)
        refine hK.out _ _ ?hSr7_9_4 fun _ => ?_
        case hSr7_9_4 => (exact cl hb hH)
        clear hK K hH; rename_i hH
        rename World => wq
        (try simp only [Act.put, nz1, nz2, nz3])
        refine tk 9 ⟨some 70, .binOp .neq 9 (.tmp 65) (.tmp 69) 9, 4, _, _, _⟩ hH ?_
        refine wpAnyH_done (by kernel_rfl) ?_ _
        clear hH
        rename World => w4
        have lc := Rc.lt
        have lr := Rr.lt
        have lb := Rb.lt
        (try clear c0 c1 c2); obtain ⟨c0, c1, c2⟩ := row3 Rc
        (try clear r0 r1 r2 r3 r4); obtain ⟨r0, r1, r2, r3, r4⟩ := row5 Rr
        (try clear b0 b1 b2 b3 b4); obtain ⟨b0, b1, b2, b3, b4⟩ := row5 Rb
        have m0 := cl hb0 (HCC.out i2 lj hlj)
        have lm := World.block_lt_of_cell? _ _ m0
        dsimp only at lm
        go_wp2_with fail
        refine (HO1 _ (below_step hbW3 (hb0.alloc hb0.size _))).mono ?_
        rintro e w5 ⟨rfl, hb⟩
        have nxc := Rc.lt
        have nxr := Rr.lt
        have nxb := Rb.lt
        replace Rc := (Rc.alloc _).later hb
        replace Rr := (Rr.alloc _).later hb
        replace Rb := (Rb.alloc _).later hb
        have Rx := Row.later (Row.new _ _ _) hb
        have mx := hb0.size
        replace hb0 := below_step (hb0.alloc hb0.size _) hb
        clear hb
        generalize w4.heap.size = gx at *
        have lc := Rc.lt
        have lr := Rr.lt
        have lb := Rb.lt
        have lx := Rx.lt
        (try clear c0 c1 c2); obtain ⟨c0, c1, c2⟩ := row3 Rc
        (try clear r0 r1 r2 r3 r4); obtain ⟨r0, r1, r2, r3, r4⟩ := row5 Rr
        (try clear b0 b1 b2 b3 b4); obtain ⟨b0, b1, b2, b3, b4⟩ := row5 Rb
        (try clear x0 x1 x2 x3 x4); obtain ⟨x0, x1, x2, x3, x4⟩ := row5 Rx
        go_wp2
        exact ⟨⟨i2 + 1, by omega, by go_num, Lib.hid (fun t x ht hx hd => by
          by_cases e : t = i2
          ·rw [e]; exact hon
          ·exact hz.out t x (by omega) hx hd), hb0⟩, by simp [intOf] <;> omega⟩
       | true =>
        rw [hon] at HO1
        have hr := HRT.out i2 lj hlj heq hon
        go_wp2_with fail
        refine wp_region_held_drew (S := (fun w' => w'.cell? ⟨g, o + i2, none⟩ = some (Value.int .i64 lj))) (by kernel_rfl) ?hSr8_ (fun hH => ?_)
        case hSr8_ => (exact m0)
        (clear c0 c1 c2 r0 r1 r2 r3 r4 b0 b1 b2 b3 b4; (replace Rc := Rc.drew); (replace Rr := Rr.drew); (replace Rb := Rb.drew); (replace hb0 := hb0.drew); (generalize World.drew wr = wq at *))
        refine tk 0 ⟨some 61, .move (.tmp 10), 62, _, _, _⟩ hH ?_
        refine tk 1 ⟨some 62, .move (.tmp 11), 3, _, _, _⟩ hH ?_
        refine tk 2 ⟨some 63, .indexAddr 62 (.tmp 61) (.tmp 62), 0, _, _, _⟩ hH ?_
        refine tk 3 ⟨some 64, .load 3 (.tmp 63), 3, _, _, _⟩ hH ?_
        refine tk 5 ⟨some 66, .move (.tmp 1), 9, _, _, _⟩ hH ?_
        refine tk 6 ⟨some 67, .move (.tmp 7), 3, _, _, _⟩ hH ?_
        refine tk 7 ⟨some 68, .binOp .add 3 (.tmp 67) (.const (.int .i64 1)) 3, 3, _, _, _⟩ hH ?_
        refine tk 8 ⟨some 69, .slice 9 (.tmp 66) (some (.tmp 68)) none none, 9, _, _, _⟩ hH ?_
        refine wpAnyH_ready (rs := [4]) (by kernel_rfl) (by simp) ?_
        refine AllReadyH.cons (o := ⟨some 65, .call { callee := .value (.func 32), args := #[.tmp 64], argTypes := #[3] }, 9, _, _, _⟩) rfl (fun K hK => ?_) AllReadyH.nil
        (go_simp; (refine (HN1 _ (below_step hbW3 hb0)).mono ?_); (rintro e wz ⟨rfl, hb⟩); (replace Rc := Rc.later hb); (replace Rr := Rr.later hb); (replace Rb := Rb.later hb); (replace hb0 := below_step hb0 hb); go_wp2_with fail)
        refine hK.out _ _ ?hSr8_9_4 fun _ => ?_
        case hSr8_9_4 => (exact cl hb hH)
        clear hK K hH; rename_i hH
        rename World => wq
        (try simp only [Act.put, nz1, nz2, nz3])
        refine tk 9 ⟨some 70, .binOp .neq 9 (.tmp 65) (.tmp 69) 9, 4, _, _, _⟩ hH ?_
        refine wpAnyH_done (by kernel_rfl) ?_ _
        clear hH
        rename World => w4
        have lc := Rc.lt
        have lr := Rr.lt
        have lb := Rb.lt
        (try clear c0 c1 c2); obtain ⟨c0, c1, c2⟩ := row3 Rc
        (try clear r0 r1 r2 r3 r4); obtain ⟨r0, r1, r2, r3, r4⟩ := row5 Rr
        (try clear b0 b1 b2 b3 b4); obtain ⟨b0, b1, b2, b3, b4⟩ := row5 Rb
        have m0 := cl hb0 (HCC.out i2 lj hlj)
        have lm := World.block_lt_of_cell? _ _ m0
        dsimp only at lm
        go_wp2_with fail
        refine (HO1 _ (below_step hbW3 (hb0.alloc hb0.size _))).mono ?_
        rintro e w5 ⟨rfl, hb⟩
        have nxc := Rc.lt
        have nxr := Rr.lt
        have nxb := Rb.lt
        replace Rc := (Rc.alloc _).later hb
        replace Rr := (Rr.alloc _).later hb
        replace Rb := (Rb.alloc _).later hb
        have Rx := Row.later (Row.new _ _ _) hb
        have mx := hb0.size
        replace hb0 := below_step (hb0.alloc hb0.size _) hb
        clear hb
        generalize w4.heap.size = gx at *
        have lc := Rc.lt
        have lr := Rr.lt
        have lb := Rb.lt
        have lx := Rx.lt
        (try clear c0 c1 c2); obtain ⟨c0, c1, c2⟩ := row3 Rc
        (try clear r0 r1 r2 r3 r4); obtain ⟨r0, r1, r2, r3, r4⟩ := row5 Rr
        (try clear b0 b1 b2 b3 b4); obtain ⟨b0, b1, b2, b3, b4⟩ := row5 Rb
        (try clear x0 x1 x2 x3 x4); obtain ⟨x0, x1, x2, x3, x4⟩ := row5 Rx
        replace hb0 := below_step hbW3 hb0
        go_wp2_with fail
        refine wp_region_held_drew (S := (fun w' => Row w' gx #[.int .i64 q.kind, .int .i64 lj, .int .u64 q.h, .int .u64 q.l, .string ⟨q.path.toArray⟩] 26)) (by kernel_rfl) ?hSr9_ (fun hH => ?_)
        case hSr9_ => (exact Rx.drew)
        (clear c0 c1 c2 r0 r1 r2 r3 r4 b0 b1 b2 b3 b4 x0 x1 x2 x3 x4; (replace Rc := Rc.drew); (replace Rr := Rr.drew); (replace Rb := Rb.drew); (replace Rx := Rx.drew); (replace hb0 := hb0.drew); (generalize World.drew w5 = wq at *))
        refine tk 0 ⟨some 84, .move (.tmp 11), 3, _, _, _⟩ hH ?_
        refine tk 1 ⟨some 85, .load 26 (.tmp 12), 26, _, _, _⟩ hH ?_ (v := ?vr9_2_1) (hy := ?yr9_2_1)
        case yr9_2_1 => (intro wy hSw; have Qx := hSw; (with_reducible refine pexec_load 26 (.tmp 12) ?_ gx ?_ 26 #[.int .i64 q.kind, .int .i64 lj, .int .u64 q.h, .int .u64 q.l, .string ⟨q.path.toArray⟩] _ Qx Tryz.underlying26 ?_ ?_) <;> first | rfl | exact infoKe)
        refine tk 2 ⟨some 4, .assign (.tmp 84), 3, _, _, _⟩ hH ?_
        refine wpAnyH_ready (rs := [3]) (by kernel_rfl) (by simp) ?_
        refine AllReadyH.cons (o := ⟨none, .store 26 (.tmp 5) (.tmp 85), 0, _, _, _⟩) rfl (fun K hK => ?_) AllReadyH.nil
        ((rw [if_pos (by rfl)]); (with_reducible refine pst 26 (.tmp 5) (.tmp 85) ?_ (w.heap.size + 1) 0 #[.int .i64 q.kind, .int .i64 lj, .int .u64 q.h, .int .u64 q.l, .string ⟨q.path.toArray⟩] ?_ ?_ ?_ ?_ ?_ ?_); rfl; rfl; rfl; (exact Row.thereAt Rr 0 _ (by simp)); (exact infoKe); (simp [Value.oneCell']); (rintro wz hwz); (have hHq := hH); (have Qx := hHq); (replace Qx := prf hwz Qx); (replace Rc := prf hwz Rc); (replace Rb := prf hwz Rb); (replace Rx := prf hwz Rx); (replace hb0 := pbl hwz hb0); (replace Rr : Row wz (w.heap.size + 1) #[.int .i64 q.kind, .int .i64 lj, .int .u64 q.h, .int .u64 q.l, .string ⟨q.path.toArray⟩] 26 := psm hwz Rr (by simp [setL])); clear hwz)
        refine hK.out _ _ ?hSr9_4_3 fun _ => ?_
        case hSr9_4_3 => (exact Qx)
        clear hK K hH; rename_i hH
        rename World => wq
        (try simp only [Act.put, nz1, nz2, nz3])
        refine tk 4 ⟨some 6, .assign (.const (.int .i64 0)), 27, _, _, _⟩ hH ?_
        refine wpAnyH_done (by kernel_rfl) ?_ _
        clear hH
        rename World => w6
        have lc := Rc.lt
        have lr := Rr.lt
        have lb := Rb.lt
        have lx := Rx.lt
        (try clear c0 c1 c2); obtain ⟨c0, c1, c2⟩ := row3 Rc
        (try clear r0 r1 r2 r3 r4); obtain ⟨r0, r1, r2, r3, r4⟩ := row5 Rr
        (try clear b0 b1 b2 b3 b4); obtain ⟨b0, b1, b2, b3, b4⟩ := row5 Rb
        (try clear x0 x1 x2 x3 x4); obtain ⟨x0, x1, x2, x3, x4⟩ := row5 Rx
        go_wp2
        refine bodyPost_ret (v := .tuple #[.int .i64 i2, .agg #[.int .i64 q.kind, .int .i64 lj, .int .u64 q.h, .int .u64 q.l, .string ⟨q.path.toArray⟩], .int .i64 0]) (by simp [results, Tryz.results9, go_sem, r0, r1, r2, r3, r4]) rfl ⟨by rw [hr], hb0⟩
      ·skip
       have hAn : ¬ (⟨(decN lj.toNat).toArray⟩ : ByteArray) = ⟨b.toArray⟩ := fun e => heq (by have := congrArg (fun z : ByteArray => z.data.toList) e; simpa using this)
       have HQ := Lib.hid heq
       clear heq
       generalize (⟨(decN lj.toNat).toArray⟩ : ByteArray) = A at HN1 hAn
       have hAl : ¬ A.toList = b := fun e => ba_ne hAn (e.trans (bytes_list b).symm)
       have hAb : (A.toList == b) = false := beq_eq_false_iff_ne.2 hAl
       go_wp2_with fail
       refine wp_region_held_drew (S := (fun w' => w'.cell? ⟨g, o + i2, none⟩ = some (Value.int .i64 lj))) (by kernel_rfl) ?hSr10_ (fun hH => ?_)
       case hSr10_ => (exact m0)
       (clear c0 c1 c2 r0 r1 r2 r3 r4 b0 b1 b2 b3 b4; (replace Rc := Rc.drew); (replace Rr := Rr.drew); (replace Rb := Rb.drew); (replace hb0 := hb0.drew); (generalize World.drew wr = wq at *))
       refine tk 0 ⟨some 61, .move (.tmp 10), 62, _, _, _⟩ hH ?_
       refine tk 1 ⟨some 62, .move (.tmp 11), 3, _, _, _⟩ hH ?_
       refine tk 2 ⟨some 63, .indexAddr 62 (.tmp 61) (.tmp 62), 0, _, _, _⟩ hH ?_
       refine tk 3 ⟨some 64, .load 3 (.tmp 63), 3, _, _, _⟩ hH ?_
       refine tk 5 ⟨some 66, .move (.tmp 1), 9, _, _, _⟩ hH ?_
       refine tk 6 ⟨some 67, .move (.tmp 7), 3, _, _, _⟩ hH ?_
       refine tk 7 ⟨some 68, .binOp .add 3 (.tmp 67) (.const (.int .i64 1)) 3, 3, _, _, _⟩ hH ?_
       refine tk 8 ⟨some 69, .slice 9 (.tmp 66) (some (.tmp 68)) none none, 9, _, _, _⟩ hH ?_
       refine wpAnyH_ready (rs := [4]) (by kernel_rfl) (by simp) ?_
       refine AllReadyH.cons (o := ⟨some 65, .call { callee := .value (.func 32), args := #[.tmp 64], argTypes := #[3] }, 9, _, _, _⟩) rfl (fun K hK => ?_) AllReadyH.nil
       (go_simp; (refine (HN1 _ (below_step hbW3 hb0)).mono ?_); (rintro e wz ⟨rfl, hb⟩); (replace Rc := Rc.later hb); (replace Rr := Rr.later hb); (replace Rb := Rb.later hb); (replace hb0 := below_step hb0 hb); go_wp2_with fail)
       refine hK.out _ _ ?hSr10_9_4 fun _ => ?_
       case hSr10_9_4 => (exact cl hb hH)
       clear hK K hH; rename_i hH
       rename World => wq
       (try simp only [Act.put, nz1, nz2, nz3])
       refine tk 9 ⟨some 70, .binOp .neq 9 (.tmp 65) (.tmp 69) 9, 4, _, _, _⟩ hH ?_
       refine wpAnyH_done (by kernel_rfl) ?_ _
       clear hH
       rename World => w4
       have lc := Rc.lt
       have lr := Rr.lt
       have lb := Rb.lt
       (try clear c0 c1 c2); obtain ⟨c0, c1, c2⟩ := row3 Rc
       (try clear r0 r1 r2 r3 r4); obtain ⟨r0, r1, r2, r3, r4⟩ := row5 Rr
       (try clear b0 b1 b2 b3 b4); obtain ⟨b0, b1, b2, b3, b4⟩ := row5 Rb
       have m0 := cl hb0 (HCC.out i2 lj hlj)
       have lm := World.block_lt_of_cell? _ _ m0
       dsimp only at lm
       go_wp2
       exact ⟨⟨i2 + 1, by omega, by go_num, Lib.hid (fun t x ht hx hd => by
         by_cases e : t = i2
         ·exact absurd (by rw [e, hlj] at hx; cases hx; exact hd) HQ.out
         ·exact hz.out t x (by omega) hx hd), hb0⟩, by simp [intOf] <;> omega⟩
     ·skip
      have hr := HEN.out (fun t x hx hd => hz.out t x (by have := (List.getElem?_eq_some_iff.1 hx).1; omega) hx hd)
      replace hb0 := below_step hb0 hbz
      (try clear c0 c1 c2); obtain ⟨c0, c1, c2⟩ := row3 Rc
      (try clear r0 r1 r2 r3 r4); obtain ⟨r0, r1, r2, r3, r4⟩ := row5 Rr
      (try clear b0 b1 b2 b3 b4); obtain ⟨b0, b1, b2, b3, b4⟩ := row5 Rb
      obtain ⟨rf0, rf1, rf2, rf3, rf4⟩ := fz5 Rr
      go_wp2
      obtain ⟨w5, hwk, hwn⟩ := pnm wr (w.heap.size + 1) 0 [.int .i64 0, .int .i64 0, .int .u64 0, .int .u64 0, .string ⟨#[]⟩]
      simp only [World.setCells] at hwk
      rw [← hwk]; clear hwk
      replace Rr : Row w5 (w.heap.size + 1) #[.int .i64 0, .int .i64 0, .int .u64 0, .int .u64 0, .string ⟨#[]⟩] 26 := psm hwn Rr (by simp [setL])
      replace Rc := prf hwn Rc
      replace Rb := prf hwn Rb
      replace hb0 := pbl hwn hb0
      clear hwn c0 c1 c2 r0 r1 r2 r3 r4 b0 b1 b2 b3 b4
      (try clear rf0 rf1 rf2 rf3 rf4)
      (try clear c0 c1 c2); obtain ⟨c0, c1, c2⟩ := row3 Rc
      (try clear r0 r1 r2 r3 r4); obtain ⟨r0, r1, r2, r3, r4⟩ := row5 Rr
      (try clear b0 b1 b2 b3 b4); obtain ⟨b0, b1, b2, b3, b4⟩ := row5 Rb
      refine bodyPost_ret (v := .tuple #[.int .i64 0, .agg #[.int .i64 0, .int .i64 0, .int .u64 0, .int .u64 0, .string ⟨#[]⟩], .int .i64 14]) (by simp [results, Tryz.results9, go_sem, r0, r1, r2, r3, r4]) rfl ⟨by rw [hr], hb0⟩
end Go.Proofs.YtboinifeemghaaaGreatDoor
