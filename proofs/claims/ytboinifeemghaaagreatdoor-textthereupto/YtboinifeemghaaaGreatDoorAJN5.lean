/- N5, N6, N7, Lab1, RangeN, Lab2, Lab3, Lab4, Lab5, Lab6, LabP, T0, Num3, Num4, WideK: what the theorem needs of these texts. No conditions beyond those that are written. -/
import Derived.Test.YtboinifeemghaaaGreatDoorAJSix11
set_option linter.unusedSimpArgs false
set_option linter.unusedVariables false
set_option maxHeartbeats 3200000
set_option maxRecDepth 100000
namespace Go.Proofs.YtboinifeemghaaaGreatDoor
open Go.RowKit
theorem ext_walk (ah al d u1 u2 v1 v2 s1 s2 t1 t2 : Int) (o b : Bool) (hd0 : 0 ≤ d) (hd1 : d ≤ 255) (w : World)
  (hR : ∀ w, Calls Tryz.prog 118 #[.agg #[.int .u64 ah, .int .u64 al], .int .i64 125] w fun e w' => e = .returned (.agg #[.int .u64 0, .int .u64 0]) ∧ Below w.heap.size w w')
  (hL3 : ∀ w, Calls Tryz.prog 99 #[.agg #[.int .u64 ah, .int .u64 al], .int .i64 3] w fun e w' => e = .returned (.agg #[.int .u64 u1, .int .u64 u2]) ∧ Below w.heap.size w w')
  (hL1 : ∀ w, Calls Tryz.prog 99 #[.agg #[.int .u64 ah, .int .u64 al], .int .i64 1] w fun e w' => e = .returned (.agg #[.int .u64 v1, .int .u64 v2]) ∧ Below w.heap.size w w')
  (hA1 : ∀ w, Calls Tryz.prog 135 #[.agg #[.int .u64 u1, .int .u64 u2], .agg #[.int .u64 v1, .int .u64 v2]] w fun e w' => e = .returned (.tuple #[.agg #[.int .u64 s1, .int .u64 s2], .bool o]) ∧ Below w.heap.size w w')
  (hA2 : ∀ w, Calls Tryz.prog 135 #[.agg #[.int .u64 s1, .int .u64 s2], .agg #[.int .u64 0, .int .u64 d]] w fun e w' => e = .returned (.tuple #[.agg #[.int .u64 t1, .int .u64 t2], .bool b]) ∧ Below w.heap.size w w') :
  Calls Tryz.prog 103 #[.agg #[.int .u64 ah, .int .u64 al], .int .u8 d] w fun e w' => e = .returned (.tuple #[.agg #[.int .u64 t1, .int .u64 t2], .bool (!o && !b)]) ∧ Below w.heap.size w w' := by
 have hwr : IntKind.u64.wrap d = d := by rw [IntKind.wrap_u64]; omega
 have hbT : Below w.heap.size w ((w.alloc (.cells #[.int .u64 ah, .int .u64 al] 73)).alloc (.cells #[.int .u64 0, .int .u64 0] 73)) := (by repeat (first | exact Below.refl _ _ | assumption | (with_reducible refine Below.drew ?_) | ((with_reducible first | refine Below.setCell ?_ ?h _ | refine Below.alloc ?_ ?h _ | refine Below.trans ?_ (hb.mono ?h) | refine Below.trans ?_ (hb0.mono ?h)); case h => first | omega | (simp; done) | (simp; omega))))
 have a0 : ((w.alloc (.cells #[.int .u64 ah, .int .u64 al] 73)).alloc (.cells #[.int .u64 0, .int .u64 0] 73)).cell? ⟨w.heap.size, 0, none⟩ = some (.int .u64 ah) := by simp [go_sem]
 have a1 : ((w.alloc (.cells #[.int .u64 ah, .int .u64 al] 73)).alloc (.cells #[.int .u64 0, .int .u64 0] 73)).cell? ⟨w.heap.size, 1, none⟩ = some (.int .u64 al) := by simp [go_sem]
 have RR : Row ((w.alloc (.cells #[.int .u64 ah, .int .u64 al] 73)).alloc (.cells #[.int .u64 0, .int .u64 0] 73)) (w.heap.size + 1) #[.int .u64 0, .int .u64 0] 73 := by
  have := Row.new (w.alloc (.cells #[.int .u64 ah, .int .u64 al] 73)) #[.int .u64 0, .int .u64 0] 73
  rwa [World.size_alloc] at this
 have HW := Lib.hid (And.intro hbT (And.intro a0 (And.intro a1 RR)))
 clear hbT a0 a1 RR
 go_enter Tryz.func103, Tryz.ntmps103
 go_wp2_with fail
 obtain ⟨hbT, a0, a1, RR⟩ := HW.out
 clear HW
 generalize ((w.alloc (.cells #[.int .u64 ah, .int .u64 al] 73)).alloc (.cells #[.int .u64 0, .int .u64 0] 73)) = w0 at *
 refine (hR w0).mono ?_
 rintro e w1 ⟨rfl, hx⟩
 replace a0 := cl hx a0
 replace a1 := cl hx a1
 replace RR := RR.later hx
 replace hbT := below_step hbT hx
 clear hx hR
 have HW := Lib.hid (And.intro hbT (And.intro a0 (And.intro a1 RR)))
 clear hbT a0 a1 RR
 go_wp2_with fail
 refine (of_any 0 w1).mono ?_
 rintro e w2 ⟨rfl, hx⟩
 obtain ⟨hbT, a0, a1, RR⟩ := HW.out
 clear HW
 replace a0 := cl hx a0
 replace a1 := cl hx a1
 replace RR := RR.later hx
 replace hbT := below_step hbT hx
 clear hx
 have HF := Lib.hid (And.intro RR hbT)
 have HW := Lib.hid (And.intro a0 a1)
 clear hbT a0 a1 RR
 go_wp2_with fail
 obtain ⟨a0, a1⟩ := HW.out
 clear HW
 have HX := Lib.hid (And.intro hA2 hwr)
 clear hA2 hwr
 have hbT : Below w2.heap.size w2 w2 := Below.refl _ _
 go_cut [6, 7] (fun s6 s7 wx => ∃ gp : Nat, s6 = .pointer (some ⟨gp, 0, none⟩) ∧ s7 = .bool o ∧ wx.cell? ⟨gp, 0, none⟩ = some (.int .u64 (s1)) ∧ wx.cell? ⟨gp, 1, none⟩ = some (.int .u64 (s2)) ∧ wx.cell? ⟨w.heap.size, 0, none⟩ = some (.int .u64 ah) ∧ wx.cell? ⟨w.heap.size, 1, none⟩ = some (.int .u64 al) ∧ Below w2.heap.size w2 wx)
 case first =>
  refine region_any (S := (fun w' => w'.cell? ⟨w.heap.size, 0, none⟩ = some (.int .u64 ah) ∧ w'.cell? ⟨w.heap.size, 1, none⟩ = some (.int .u64 al) ∧ Below w2.heap.size w2 w')) (by kernel_rfl) ?hSr1_ (fun wq hH => ?_)
  case hSr1_ => (first | exact ⟨a0, a1, hbT.drew⟩ | exact ⟨cl hb hH.1, cl hb hH.2.1, below_step hH.2.2 hb⟩)
  refine tk 0 ⟨some 16, .load 73 (.tmp 2), 73, _, _, _⟩ hH ?_
  refine tk 2 ⟨some 18, .load 73 (.tmp 2), 73, _, _, _⟩ hH ?_
  refine wpAnyH_ready (rs := [1, 8]) (by kernel_rfl) (by simp) ?_
  refine AllReadyH.cons (o := ⟨some 17, .call { callee := .value (.func 99), args := #[.tmp 16, .const (.int .i64 3)], argTypes := #[73, 3] }, 73, _, _, _⟩) rfl (fun K hK => ?_) ?_
  ·go_simp
   ((first | (with_reducible refine (hL3 _).mono ?_) | (with_reducible refine (hL1 _).mono ?_)); (rintro e wn ⟨rfl, hb⟩); (try replace Rn := Rn.later hb))
   go_wp2_with fail
   refine hK.out _ _ ?hSr1_3_1 fun _ => ?_
   case hSr1_3_1 => (first | exact ⟨a0, a1, hbT.drew⟩ | exact ⟨cl hb hH.1, cl hb hH.2.1, below_step hH.2.2 hb⟩)
   clear hK K hH; rename_i hH
   rename World => wq
   (try simp only [Act.put, nz1, nz2, nz3])
   refine wpAnyH_ready (rs := [3, 8]) (by kernel_rfl) (by simp) ?_
   refine AllReadyH.cons (o := ⟨some 19, .call { callee := .value (.func 99), args := #[.tmp 18, .const (.int .i64 1)], argTypes := #[73, 3] }, 73, _, _, _⟩) rfl (fun K hK => ?_) ?_
   ·go_simp
    ((first | (with_reducible refine (hL3 _).mono ?_) | (with_reducible refine (hL1 _).mono ?_)); (rintro e wn ⟨rfl, hb⟩); (try replace Rn := Rn.later hb))
    go_wp2_with fail
    refine hK.out _ _ ?hSr1_4_3 fun _ => ?_
    case hSr1_4_3 => (first | exact ⟨a0, a1, hbT.drew⟩ | exact ⟨cl hb hH.1, cl hb hH.2.1, below_step hH.2.2 hb⟩)
    clear hK K hH; rename_i hH
    rename World => wq
    (try simp only [Act.put, nz1, nz2, nz3])
    refine wpAnyH_ready (rs := [4, 8]) (by kernel_rfl) (by simp) ?_
    refine AllReadyH.cons (o := ⟨some 20, .call { callee := .value (.func 135), args := #[.tmp 17, .tmp 19], argTypes := #[73, 73] }, 138, _, _, _⟩) rfl (fun K hK => ?_) ?_
    ·go_simp
     ((refine (hA1 _).mono ?_); (rintro e wn ⟨rfl, hb⟩); (try replace Rn := Rn.later hb))
     go_wp2_with fail
     refine hK.out _ _ ?hSr1_5_4 fun _ => ?_
     case hSr1_5_4 => (first | exact ⟨a0, a1, hbT.drew⟩ | exact ⟨cl hb hH.1, cl hb hH.2.1, below_step hH.2.2 hb⟩)
     clear hK K hH; rename_i hH
     rename World => wq
     (try simp only [Act.put, nz1, nz2, nz3])
     refine tk 5 ⟨some 15, .move (.tmp 20), 138, _, _, _⟩ hH ?_
     refine tk 6 ⟨some 21, .extract (.tmp 15) 0, 73, _, _, _⟩ hH ?_
     refine tk 7 ⟨some 22, .extract (.tmp 15) 1, 4, _, _, _⟩ hH ?_
     refine wpAnyH_ready (rs := [8]) (by kernel_rfl) (by simp) ?_
     refine AllReadyH.cons (o := ⟨some 6, .alloc 73, 0, _, _, _⟩) rfl (fun K hK => ?_) AllReadyH.nil
     (go_simp; (have ne0 := Nat.ne_of_lt (World.block_lt_of_cell? _ _ hH.1)); (have ne1 := Nat.ne_of_lt (World.block_lt_of_cell? _ _ hH.2.1)); (have mn := hH.2.2.size); (have Rn := Row.new wq #[.int .u64 0, .int .u64 0] 73); (have hb : Below wq.heap.size wq (wq.alloc (.cells #[.int .u64 0, .int .u64 0] 73)) := (Below.refl _ _).alloc (Nat.le_refl _) _); (have hSn := And.intro (cl hb hH.1) (And.intro (cl hb hH.2.1) (below_step hH.2.2 hb))); clear hb; generalize wq.alloc (.cells #[.int .u64 0, .int .u64 0] 73) = wn at *; generalize wq.heap.size = gp at *)
     refine hK.out _ _ ?hSr1_9_8 fun _ => ?_
     case hSr1_9_8 => (exact hSn)
     clear hK K hH; rename_i hH
     rename World => wq
     (try simp only [Act.put, nz1, nz2, nz3])
     refine wpAnyH_ready (rs := [9]) (by kernel_rfl) (by simp) ?_
     refine AllReadyH.cons (o := ⟨none, .store 73 (.tmp 6) (.tmp 21), 0, _, _, _⟩) rfl (fun K hK => ?_) AllReadyH.nil
     ((have c0 := Rn.cell 0); (have c1 := Rn.cell 1); (simp at c0 c1); (have f0 := Rn.frozen 0); (have f1 := Rn.frozen 1); go_simp; clear c0 c1 f0 f1; (have Rm := (Rn.set 0 (.int .u64 (s1))).set 1 (.int .u64 (s2))); (simp at Rm))
     refine hK.out _ _ ?hSr1_10_9 fun _ => ?_
     case hSr1_10_9 => (exact ⟨(World.cell?_setCell_far _ _ _ _ ne0.symm).trans ((World.cell?_setCell_far _ _ _ _ ne0.symm).trans hH.1), (World.cell?_setCell_far _ _ _ _ ne1.symm).trans ((World.cell?_setCell_far _ _ _ _ ne1.symm).trans hH.2.1), (hH.2.2.setCell mn _).setCell mn _⟩)
     clear hK K hH; rename_i hH
     rename World => wq
     (try simp only [Act.put, nz1, nz2, nz3])
     refine tk 10 ⟨some 7, .assign (.tmp 22), 4, _, _, _⟩ hH ?_
     refine wpAnyH_done (by kernel_rfl) ?_ _
     (go_wp2_with fail; go_meet; exact ⟨gp, rfl, rfl, (by simpa using Rm.cell 0), (by simpa using Rm.cell 1), hH⟩)
    refine AllReadyH.cons (o := ⟨some 6, .alloc 73, 0, _, _, _⟩) rfl (fun K hK => ?_) AllReadyH.nil
    ·(go_simp; (have ne0 := Nat.ne_of_lt (World.block_lt_of_cell? _ _ hH.1)); (have ne1 := Nat.ne_of_lt (World.block_lt_of_cell? _ _ hH.2.1)); (have mn := hH.2.2.size); (have Rn := Row.new wq #[.int .u64 0, .int .u64 0] 73); (have hb : Below wq.heap.size wq (wq.alloc (.cells #[.int .u64 0, .int .u64 0] 73)) := (Below.refl _ _).alloc (Nat.le_refl _) _); (have hSn := And.intro (cl hb hH.1) (And.intro (cl hb hH.2.1) (below_step hH.2.2 hb))); clear hb; generalize wq.alloc (.cells #[.int .u64 0, .int .u64 0] 73) = wn at *; generalize wq.heap.size = gp at *)
     refine hK.out _ _ ?hSr1_12_8 fun _ => ?_
     case hSr1_12_8 => (exact hSn)
     clear hK K hH; rename_i hH
     rename World => wq
     (try simp only [Act.put, nz1, nz2, nz3])
     refine wpAnyH_ready (rs := [4]) (by kernel_rfl) (by simp) ?_
     refine AllReadyH.cons (o := ⟨some 20, .call { callee := .value (.func 135), args := #[.tmp 17, .tmp 19], argTypes := #[73, 73] }, 138, _, _, _⟩) rfl (fun K hK => ?_) AllReadyH.nil
     go_simp
     ((refine (hA1 _).mono ?_); (rintro e wn ⟨rfl, hb⟩); (try replace Rn := Rn.later hb))
     go_wp2_with fail
     refine hK.out _ _ ?hSr1_13_4 fun _ => ?_
     case hSr1_13_4 => (first | exact ⟨a0, a1, hbT.drew⟩ | exact ⟨cl hb hH.1, cl hb hH.2.1, below_step hH.2.2 hb⟩)
     clear hK K hH; rename_i hH
     rename World => wq
     (try simp only [Act.put, nz1, nz2, nz3])
     refine tk 5 ⟨some 15, .move (.tmp 20), 138, _, _, _⟩ hH ?_
     refine tk 6 ⟨some 21, .extract (.tmp 15) 0, 73, _, _, _⟩ hH ?_
     refine tk 7 ⟨some 22, .extract (.tmp 15) 1, 4, _, _, _⟩ hH ?_
     refine wpAnyH_ready (rs := [9]) (by kernel_rfl) (by simp) ?_
     refine AllReadyH.cons (o := ⟨none, .store 73 (.tmp 6) (.tmp 21), 0, _, _, _⟩) rfl (fun K hK => ?_) AllReadyH.nil
     ((have c0 := Rn.cell 0); (have c1 := Rn.cell 1); (simp at c0 c1); (have f0 := Rn.frozen 0); (have f1 := Rn.frozen 1); go_simp; clear c0 c1 f0 f1; (have Rm := (Rn.set 0 (.int .u64 (s1))).set 1 (.int .u64 (s2))); (simp at Rm))
     refine hK.out _ _ ?hSr1_17_9 fun _ => ?_
     case hSr1_17_9 => (exact ⟨(World.cell?_setCell_far _ _ _ _ ne0.symm).trans ((World.cell?_setCell_far _ _ _ _ ne0.symm).trans hH.1), (World.cell?_setCell_far _ _ _ _ ne1.symm).trans ((World.cell?_setCell_far _ _ _ _ ne1.symm).trans hH.2.1), (hH.2.2.setCell mn _).setCell mn _⟩)
     clear hK K hH; rename_i hH
     rename World => wq
     (try simp only [Act.put, nz1, nz2, nz3])
     refine tk 10 ⟨some 7, .assign (.tmp 22), 4, _, _, _⟩ hH ?_
     refine wpAnyH_done (by kernel_rfl) ?_ _
     (go_wp2_with fail; go_meet; exact ⟨gp, rfl, rfl, (by simpa using Rm.cell 0), (by simpa using Rm.cell 1), hH⟩)
   refine AllReadyH.cons (o := ⟨some 6, .alloc 73, 0, _, _, _⟩) rfl (fun K hK => ?_) AllReadyH.nil
   ·(go_simp; (have ne0 := Nat.ne_of_lt (World.block_lt_of_cell? _ _ hH.1)); (have ne1 := Nat.ne_of_lt (World.block_lt_of_cell? _ _ hH.2.1)); (have mn := hH.2.2.size); (have Rn := Row.new wq #[.int .u64 0, .int .u64 0] 73); (have hb : Below wq.heap.size wq (wq.alloc (.cells #[.int .u64 0, .int .u64 0] 73)) := (Below.refl _ _).alloc (Nat.le_refl _) _); (have hSn := And.intro (cl hb hH.1) (And.intro (cl hb hH.2.1) (below_step hH.2.2 hb))); clear hb; generalize wq.alloc (.cells #[.int .u64 0, .int .u64 0] 73) = wn at *; generalize wq.heap.size = gp at *)
    refine hK.out _ _ ?hSr1_19_8 fun _ => ?_
    case hSr1_19_8 => (exact hSn)
    clear hK K hH; rename_i hH
    rename World => wq
    (try simp only [Act.put, nz1, nz2, nz3])
    refine wpAnyH_ready (rs := [3]) (by kernel_rfl) (by simp) ?_
    refine AllReadyH.cons (o := ⟨some 19, .call { callee := .value (.func 99), args := #[.tmp 18, .const (.int .i64 1)], argTypes := #[73, 3] }, 73, _, _, _⟩) rfl (fun K hK => ?_) AllReadyH.nil
    go_simp
    ((first | (with_reducible refine (hL3 _).mono ?_) | (with_reducible refine (hL1 _).mono ?_)); (rintro e wn ⟨rfl, hb⟩); (try replace Rn := Rn.later hb))
    go_wp2_with fail
    refine hK.out _ _ ?hSr1_20_3 fun _ => ?_
    case hSr1_20_3 => (first | exact ⟨a0, a1, hbT.drew⟩ | exact ⟨cl hb hH.1, cl hb hH.2.1, below_step hH.2.2 hb⟩)
    clear hK K hH; rename_i hH
    rename World => wq
    (try simp only [Act.put, nz1, nz2, nz3])
    refine wpAnyH_ready (rs := [4]) (by kernel_rfl) (by simp) ?_
    refine AllReadyH.cons (o := ⟨some 20, .call { callee := .value (.func 135), args := #[.tmp 17, .tmp 19], argTypes := #[73, 73] }, 138, _, _, _⟩) rfl (fun K hK => ?_) AllReadyH.nil
    go_simp
    ((refine (hA1 _).mono ?_); (rintro e wn ⟨rfl, hb⟩); (try replace Rn := Rn.later hb))
    go_wp2_with fail
    refine hK.out _ _ ?hSr1_21_4 fun _ => ?_
    case hSr1_21_4 => (first | exact ⟨a0, a1, hbT.drew⟩ | exact ⟨cl hb hH.1, cl hb hH.2.1, below_step hH.2.2 hb⟩)
    clear hK K hH; rename_i hH
    rename World => wq
    (try simp only [Act.put, nz1, nz2, nz3])
    refine tk 5 ⟨some 15, .move (.tmp 20), 138, _, _, _⟩ hH ?_
    refine tk 6 ⟨some 21, .extract (.tmp 15) 0, 73, _, _, _⟩ hH ?_
    refine tk 7 ⟨some 22, .extract (.tmp 15) 1, 4, _, _, _⟩ hH ?_
    refine wpAnyH_ready (rs := [9]) (by kernel_rfl) (by simp) ?_
    refine AllReadyH.cons (o := ⟨none, .store 73 (.tmp 6) (.tmp 21), 0, _, _, _⟩) rfl (fun K hK => ?_) AllReadyH.nil
    ((have c0 := Rn.cell 0); (have c1 := Rn.cell 1); (simp at c0 c1); (have f0 := Rn.frozen 0); (have f1 := Rn.frozen 1); go_simp; clear c0 c1 f0 f1; (have Rm := (Rn.set 0 (.int .u64 (s1))).set 1 (.int .u64 (s2))); (simp at Rm))
    refine hK.out _ _ ?hSr1_25_9 fun _ => ?_
    case hSr1_25_9 => (exact ⟨(World.cell?_setCell_far _ _ _ _ ne0.symm).trans ((World.cell?_setCell_far _ _ _ _ ne0.symm).trans hH.1), (World.cell?_setCell_far _ _ _ _ ne1.symm).trans ((World.cell?_setCell_far _ _ _ _ ne1.symm).trans hH.2.1), (hH.2.2.setCell mn _).setCell mn _⟩)
    clear hK K hH; rename_i hH
    rename World => wq
    (try simp only [Act.put, nz1, nz2, nz3])
    refine tk 10 ⟨some 7, .assign (.tmp 22), 4, _, _, _⟩ hH ?_
    refine wpAnyH_done (by kernel_rfl) ?_ _
    (go_wp2_with fail; go_meet; exact ⟨gp, rfl, rfl, (by simpa using Rm.cell 0), (by simpa using Rm.cell 1), hH⟩)
  refine AllReadyH.cons (o := ⟨some 6, .alloc 73, 0, _, _, _⟩) rfl (fun K hK => ?_) AllReadyH.nil
  ·(go_simp; (have ne0 := Nat.ne_of_lt (World.block_lt_of_cell? _ _ hH.1)); (have ne1 := Nat.ne_of_lt (World.block_lt_of_cell? _ _ hH.2.1)); (have mn := hH.2.2.size); (have Rn := Row.new wq #[.int .u64 0, .int .u64 0] 73); (have hb : Below wq.heap.size wq (wq.alloc (.cells #[.int .u64 0, .int .u64 0] 73)) := (Below.refl _ _).alloc (Nat.le_refl _) _); (have hSn := And.intro (cl hb hH.1) (And.intro (cl hb hH.2.1) (below_step hH.2.2 hb))); clear hb; generalize wq.alloc (.cells #[.int .u64 0, .int .u64 0] 73) = wn at *; generalize wq.heap.size = gp at *)
   refine hK.out _ _ ?hSr1_27_8 fun _ => ?_
   case hSr1_27_8 => (exact hSn)
   clear hK K hH; rename_i hH
   rename World => wq
   (try simp only [Act.put, nz1, nz2, nz3])
   refine wpAnyH_ready (rs := [1]) (by kernel_rfl) (by simp) ?_
   refine AllReadyH.cons (o := ⟨some 17, .call { callee := .value (.func 99), args := #[.tmp 16, .const (.int .i64 3)], argTypes := #[73, 3] }, 73, _, _, _⟩) rfl (fun K hK => ?_) AllReadyH.nil
   go_simp
   ((first | (with_reducible refine (hL3 _).mono ?_) | (with_reducible refine (hL1 _).mono ?_)); (rintro e wn ⟨rfl, hb⟩); (try replace Rn := Rn.later hb))
   go_wp2_with fail
   refine hK.out _ _ ?hSr1_28_1 fun _ => ?_
   case hSr1_28_1 => (first | exact ⟨a0, a1, hbT.drew⟩ | exact ⟨cl hb hH.1, cl hb hH.2.1, below_step hH.2.2 hb⟩)
   clear hK K hH; rename_i hH
   rename World => wq
   (try simp only [Act.put, nz1, nz2, nz3])
   refine wpAnyH_ready (rs := [3]) (by kernel_rfl) (by simp) ?_
   refine AllReadyH.cons (o := ⟨some 19, .call { callee := .value (.func 99), args := #[.tmp 18, .const (.int .i64 1)], argTypes := #[73, 3] }, 73, _, _, _⟩) rfl (fun K hK => ?_) AllReadyH.nil
   go_simp
   ((first | (with_reducible refine (hL3 _).mono ?_) | (with_reducible refine (hL1 _).mono ?_)); (rintro e wn ⟨rfl, hb⟩); (try replace Rn := Rn.later hb))
   go_wp2_with fail
   refine hK.out _ _ ?hSr1_29_3 fun _ => ?_
   case hSr1_29_3 => (first | exact ⟨a0, a1, hbT.drew⟩ | exact ⟨cl hb hH.1, cl hb hH.2.1, below_step hH.2.2 hb⟩)
   clear hK K hH; rename_i hH
   rename World => wq
   (try simp only [Act.put, nz1, nz2, nz3])
   refine wpAnyH_ready (rs := [4]) (by kernel_rfl) (by simp) ?_
   refine AllReadyH.cons (o := ⟨some 20, .call { callee := .value (.func 135), args := #[.tmp 17, .tmp 19], argTypes := #[73, 73] }, 138, _, _, _⟩) rfl (fun K hK => ?_) AllReadyH.nil
   go_simp
   ((refine (hA1 _).mono ?_); (rintro e wn ⟨rfl, hb⟩); (try replace Rn := Rn.later hb))
   go_wp2_with fail
   refine hK.out _ _ ?hSr1_30_4 fun _ => ?_
   case hSr1_30_4 => (first | exact ⟨a0, a1, hbT.drew⟩ | exact ⟨cl hb hH.1, cl hb hH.2.1, below_step hH.2.2 hb⟩)
   clear hK K hH; rename_i hH
   rename World => wq
   (try simp only [Act.put, nz1, nz2, nz3])
   refine tk 5 ⟨some 15, .move (.tmp 20), 138, _, _, _⟩ hH ?_
   refine tk 6 ⟨some 21, .extract (.tmp 15) 0, 73, _, _, _⟩ hH ?_
   refine tk 7 ⟨some 22, .extract (.tmp 15) 1, 4, _, _, _⟩ hH ?_
   refine wpAnyH_ready (rs := [9]) (by kernel_rfl) (by simp) ?_
   refine AllReadyH.cons (o := ⟨none, .store 73 (.tmp 6) (.tmp 21), 0, _, _, _⟩) rfl (fun K hK => ?_) AllReadyH.nil
   ((have c0 := Rn.cell 0); (have c1 := Rn.cell 1); (simp at c0 c1); (have f0 := Rn.frozen 0); (have f1 := Rn.frozen 1); go_simp; clear c0 c1 f0 f1; (have Rm := (Rn.set 0 (.int .u64 (s1))).set 1 (.int .u64 (s2))); (simp at Rm))
   refine hK.out _ _ ?hSr1_34_9 fun _ => ?_
   case hSr1_34_9 => (exact ⟨(World.cell?_setCell_far _ _ _ _ ne0.symm).trans ((World.cell?_setCell_far _ _ _ _ ne0.symm).trans hH.1), (World.cell?_setCell_far _ _ _ _ ne1.symm).trans ((World.cell?_setCell_far _ _ _ _ ne1.symm).trans hH.2.1), (hH.2.2.setCell mn _).setCell mn _⟩)
   clear hK K hH; rename_i hH
   rename World => wq
   (try simp only [Act.put, nz1, nz2, nz3])
   refine tk 10 ⟨some 7, .assign (.tmp 22), 4, _, _, _⟩ hH ?_
   refine wpAnyH_done (by kernel_rfl) ?_ _
   (go_wp2_with fail; go_meet; exact ⟨gp, rfl, rfl, (by simpa using Rm.cell 0), (by simpa using Rm.cell 1), hH⟩)
 case rest =>
  clear a0 a1 hbT hL3 hL1 hA1
  obtain ⟨gp, rfl, rfl, p0, p1, a0, a1, hbT⟩ := hcut
  obtain ⟨hA2, hwr⟩ := HX.out
  clear HX
  go_wp2_with fail
  go_cut [8, 9] (fun s8 s9 wx => ∃ gs : Nat, s8 = .pointer (some ⟨gs, 0, none⟩) ∧ s9 = .bool b ∧ wx.cell? ⟨gs, 0, none⟩ = some (.int .u64 (t1)) ∧ wx.cell? ⟨gs, 1, none⟩ = some (.int .u64 (t2)) ∧ wx.cell? ⟨w.heap.size, 0, none⟩ = some (.int .u64 ah) ∧ wx.cell? ⟨w.heap.size, 1, none⟩ = some (.int .u64 al) ∧ wx.cell? ⟨gp, 0, none⟩ = some (.int .u64 s1) ∧ wx.cell? ⟨gp, 1, none⟩ = some (.int .u64 s2) ∧ Below w2.heap.size w2 wx)
  case first =>
   refine region_any (S := (fun w' => w'.cell? ⟨w.heap.size, 0, none⟩ = some (.int .u64 ah) ∧ w'.cell? ⟨w.heap.size, 1, none⟩ = some (.int .u64 al) ∧ w'.cell? ⟨gp, 0, none⟩ = some (.int .u64 s1) ∧ w'.cell? ⟨gp, 1, none⟩ = some (.int .u64 s2) ∧ Below w2.heap.size w2 w')) (by kernel_rfl) ?hSr2_ (fun wq hH => ?_)
   case hSr2_ => (first | exact ⟨a0, a1, p0, p1, hbT.drew⟩ | exact ⟨cl hb hH.1, cl hb hH.2.1, cl hb hH.2.2.1, cl hb hH.2.2.2.1, below_step hH.2.2.2.2 hb⟩)
   refine tk 0 ⟨some 24, .load 73 (.tmp 6), 73, _, _, _⟩ hH ?_
   refine tk 1 ⟨some 25, .move (.tmp 1), 5, _, _, _⟩ hH ?_
   refine tk 2 ⟨some 26, .convert 5 24 (.tmp 25), 24, _, _, _⟩ hH ?_
   refine wpAnyH_ready (rs := [3, 8]) (by kernel_rfl) (by simp) ?_
   refine AllReadyH.cons (o := ⟨some 27, .call { callee := .value (.func 63), args := #[.tmp 26], argTypes := #[24] }, 73, _, _, _⟩) rfl (fun K hK => ?_) ?_
   ·go_simp
    ((refine (of_any _ _).mono ?_); (rintro e wn ⟨rfl, hb⟩); (try replace Rn := Rn.later hb))
    go_wp2_with fail
    refine hK.out _ _ ?hSr2_4_3 fun _ => ?_
    case hSr2_4_3 => (first | exact ⟨a0, a1, p0, p1, hbT.drew⟩ | exact ⟨cl hb hH.1, cl hb hH.2.1, cl hb hH.2.2.1, cl hb hH.2.2.2.1, below_step hH.2.2.2.2 hb⟩)
    clear hK K hH; rename_i hH
    rename World => wq
    (try simp only [Act.put, nz1, nz2, nz3])
    refine wpAnyH_ready (rs := [4, 8]) (by kernel_rfl) (by simp) ?_
    refine AllReadyH.cons (o := ⟨some 28, .call { callee := .value (.func 135), args := #[.tmp 24, .tmp 27], argTypes := #[73, 73] }, 138, _, _, _⟩) rfl (fun K hK => ?_) ?_
    ·go_simp
     ((refine (hA2 _).mono ?_); (rintro e wn ⟨rfl, hb⟩); (try replace Rn := Rn.later hb))
     go_wp2_with fail
     refine hK.out _ _ ?hSr2_5_4 fun _ => ?_
     case hSr2_5_4 => (first | exact ⟨a0, a1, p0, p1, hbT.drew⟩ | exact ⟨cl hb hH.1, cl hb hH.2.1, cl hb hH.2.2.1, cl hb hH.2.2.2.1, below_step hH.2.2.2.2 hb⟩)
     clear hK K hH; rename_i hH
     rename World => wq
     (try simp only [Act.put, nz1, nz2, nz3])
     refine tk 5 ⟨some 23, .move (.tmp 28), 138, _, _, _⟩ hH ?_
     refine tk 6 ⟨some 29, .extract (.tmp 23) 0, 73, _, _, _⟩ hH ?_
     refine tk 7 ⟨some 30, .extract (.tmp 23) 1, 4, _, _, _⟩ hH ?_
     refine wpAnyH_ready (rs := [8]) (by kernel_rfl) (by simp) ?_
     refine AllReadyH.cons (o := ⟨some 8, .alloc 73, 0, _, _, _⟩) rfl (fun K hK => ?_) AllReadyH.nil
     (go_simp; (have ne0 := Nat.ne_of_lt (World.block_lt_of_cell? _ _ hH.1)); (have ne1 := Nat.ne_of_lt (World.block_lt_of_cell? _ _ hH.2.1)); (have ne2 := Nat.ne_of_lt (World.block_lt_of_cell? _ _ hH.2.2.1)); (have ne3 := Nat.ne_of_lt (World.block_lt_of_cell? _ _ hH.2.2.2.1)); (have mn := hH.2.2.2.2.size); (have Rn := Row.new wq #[.int .u64 0, .int .u64 0] 73); (have hb : Below wq.heap.size wq (wq.alloc (.cells #[.int .u64 0, .int .u64 0] 73)) := (Below.refl _ _).alloc (Nat.le_refl _) _); (have hSn := And.intro (cl hb hH.1) (And.intro (cl hb hH.2.1) (And.intro (cl hb hH.2.2.1) (And.intro (cl hb hH.2.2.2.1) (below_step hH.2.2.2.2 hb))))); clear hb; generalize wq.alloc (.cells #[.int .u64 0, .int .u64 0] 73) = wn at *; generalize wq.heap.size = gs at *)
     refine hK.out _ _ ?hSr2_9_8 fun _ => ?_
     case hSr2_9_8 => (exact hSn)
     clear hK K hH; rename_i hH
     rename World => wq
     (try simp only [Act.put, nz1, nz2, nz3])
     refine wpAnyH_ready (rs := [9]) (by kernel_rfl) (by simp) ?_
     refine AllReadyH.cons (o := ⟨none, .store 73 (.tmp 8) (.tmp 29), 0, _, _, _⟩) rfl (fun K hK => ?_) AllReadyH.nil
     ((have c0 := Rn.cell 0); (have c1 := Rn.cell 1); (simp at c0 c1); (have f0 := Rn.frozen 0); (have f1 := Rn.frozen 1); go_simp; clear c0 c1 f0 f1; (have Rm := (Rn.set 0 (.int .u64 (t1))).set 1 (.int .u64 (t2))); (simp at Rm))
     refine hK.out _ _ ?hSr2_10_9 fun _ => ?_
     case hSr2_10_9 => (exact ⟨(World.cell?_setCell_far _ _ _ _ ne0.symm).trans ((World.cell?_setCell_far _ _ _ _ ne0.symm).trans hH.1), (World.cell?_setCell_far _ _ _ _ ne1.symm).trans ((World.cell?_setCell_far _ _ _ _ ne1.symm).trans hH.2.1), (World.cell?_setCell_far _ _ _ _ ne2.symm).trans ((World.cell?_setCell_far _ _ _ _ ne2.symm).trans hH.2.2.1), (World.cell?_setCell_far _ _ _ _ ne3.symm).trans ((World.cell?_setCell_far _ _ _ _ ne3.symm).trans hH.2.2.2.1), (hH.2.2.2.2.setCell mn _).setCell mn _⟩)
     clear hK K hH; rename_i hH
     rename World => wq
     (try simp only [Act.put, nz1, nz2, nz3])
     refine tk 10 ⟨some 9, .assign (.tmp 30), 4, _, _, _⟩ hH ?_
     refine wpAnyH_done (by kernel_rfl) ?_ _
     (go_wp2_with fail; go_meet; exact ⟨gs, rfl, rfl, (by simpa using Rm.cell 0), (by simpa using Rm.cell 1), hH⟩)
    refine AllReadyH.cons (o := ⟨some 8, .alloc 73, 0, _, _, _⟩) rfl (fun K hK => ?_) AllReadyH.nil
    ·(go_simp; (have ne0 := Nat.ne_of_lt (World.block_lt_of_cell? _ _ hH.1)); (have ne1 := Nat.ne_of_lt (World.block_lt_of_cell? _ _ hH.2.1)); (have ne2 := Nat.ne_of_lt (World.block_lt_of_cell? _ _ hH.2.2.1)); (have ne3 := Nat.ne_of_lt (World.block_lt_of_cell? _ _ hH.2.2.2.1)); (have mn := hH.2.2.2.2.size); (have Rn := Row.new wq #[.int .u64 0, .int .u64 0] 73); (have hb : Below wq.heap.size wq (wq.alloc (.cells #[.int .u64 0, .int .u64 0] 73)) := (Below.refl _ _).alloc (Nat.le_refl _) _); (have hSn := And.intro (cl hb hH.1) (And.intro (cl hb hH.2.1) (And.intro (cl hb hH.2.2.1) (And.intro (cl hb hH.2.2.2.1) (below_step hH.2.2.2.2 hb))))); clear hb; generalize wq.alloc (.cells #[.int .u64 0, .int .u64 0] 73) = wn at *; generalize wq.heap.size = gs at *)
     refine hK.out _ _ ?hSr2_12_8 fun _ => ?_
     case hSr2_12_8 => (exact hSn)
     clear hK K hH; rename_i hH
     rename World => wq
     (try simp only [Act.put, nz1, nz2, nz3])
     refine wpAnyH_ready (rs := [4]) (by kernel_rfl) (by simp) ?_
     refine AllReadyH.cons (o := ⟨some 28, .call { callee := .value (.func 135), args := #[.tmp 24, .tmp 27], argTypes := #[73, 73] }, 138, _, _, _⟩) rfl (fun K hK => ?_) AllReadyH.nil
     go_simp
     ((refine (hA2 _).mono ?_); (rintro e wn ⟨rfl, hb⟩); (try replace Rn := Rn.later hb))
     go_wp2_with fail
     refine hK.out _ _ ?hSr2_13_4 fun _ => ?_
     case hSr2_13_4 => (first | exact ⟨a0, a1, p0, p1, hbT.drew⟩ | exact ⟨cl hb hH.1, cl hb hH.2.1, cl hb hH.2.2.1, cl hb hH.2.2.2.1, below_step hH.2.2.2.2 hb⟩)
     clear hK K hH; rename_i hH
     rename World => wq
     (try simp only [Act.put, nz1, nz2, nz3])
     refine tk 5 ⟨some 23, .move (.tmp 28), 138, _, _, _⟩ hH ?_
     refine tk 6 ⟨some 29, .extract (.tmp 23) 0, 73, _, _, _⟩ hH ?_
     refine tk 7 ⟨some 30, .extract (.tmp 23) 1, 4, _, _, _⟩ hH ?_
     refine wpAnyH_ready (rs := [9]) (by kernel_rfl) (by simp) ?_
     refine AllReadyH.cons (o := ⟨none, .store 73 (.tmp 8) (.tmp 29), 0, _, _, _⟩) rfl (fun K hK => ?_) AllReadyH.nil
     ((have c0 := Rn.cell 0); (have c1 := Rn.cell 1); (simp at c0 c1); (have f0 := Rn.frozen 0); (have f1 := Rn.frozen 1); go_simp; clear c0 c1 f0 f1; (have Rm := (Rn.set 0 (.int .u64 (t1))).set 1 (.int .u64 (t2))); (simp at Rm))
     refine hK.out _ _ ?hSr2_17_9 fun _ => ?_
     case hSr2_17_9 => (exact ⟨(World.cell?_setCell_far _ _ _ _ ne0.symm).trans ((World.cell?_setCell_far _ _ _ _ ne0.symm).trans hH.1), (World.cell?_setCell_far _ _ _ _ ne1.symm).trans ((World.cell?_setCell_far _ _ _ _ ne1.symm).trans hH.2.1), (World.cell?_setCell_far _ _ _ _ ne2.symm).trans ((World.cell?_setCell_far _ _ _ _ ne2.symm).trans hH.2.2.1), (World.cell?_setCell_far _ _ _ _ ne3.symm).trans ((World.cell?_setCell_far _ _ _ _ ne3.symm).trans hH.2.2.2.1), (hH.2.2.2.2.setCell mn _).setCell mn _⟩)
     clear hK K hH; rename_i hH
     rename World => wq
     (try simp only [Act.put, nz1, nz2, nz3])
     refine tk 10 ⟨some 9, .assign (.tmp 30), 4, _, _, _⟩ hH ?_
     refine wpAnyH_done (by kernel_rfl) ?_ _
     (go_wp2_with fail; go_meet; exact ⟨gs, rfl, rfl, (by simpa using Rm.cell 0), (by simpa using Rm.cell 1), hH⟩)
   refine AllReadyH.cons (o := ⟨some 8, .alloc 73, 0, _, _, _⟩) rfl (fun K hK => ?_) AllReadyH.nil
   ·(go_simp; (have ne0 := Nat.ne_of_lt (World.block_lt_of_cell? _ _ hH.1)); (have ne1 := Nat.ne_of_lt (World.block_lt_of_cell? _ _ hH.2.1)); (have ne2 := Nat.ne_of_lt (World.block_lt_of_cell? _ _ hH.2.2.1)); (have ne3 := Nat.ne_of_lt (World.block_lt_of_cell? _ _ hH.2.2.2.1)); (have mn := hH.2.2.2.2.size); (have Rn := Row.new wq #[.int .u64 0, .int .u64 0] 73); (have hb : Below wq.heap.size wq (wq.alloc (.cells #[.int .u64 0, .int .u64 0] 73)) := (Below.refl _ _).alloc (Nat.le_refl _) _); (have hSn := And.intro (cl hb hH.1) (And.intro (cl hb hH.2.1) (And.intro (cl hb hH.2.2.1) (And.intro (cl hb hH.2.2.2.1) (below_step hH.2.2.2.2 hb))))); clear hb; generalize wq.alloc (.cells #[.int .u64 0, .int .u64 0] 73) = wn at *; generalize wq.heap.size = gs at *)
    refine hK.out _ _ ?hSr2_19_8 fun _ => ?_
    case hSr2_19_8 => (exact hSn)
    clear hK K hH; rename_i hH
    rename World => wq
    (try simp only [Act.put, nz1, nz2, nz3])
    refine wpAnyH_ready (rs := [3]) (by kernel_rfl) (by simp) ?_
    refine AllReadyH.cons (o := ⟨some 27, .call { callee := .value (.func 63), args := #[.tmp 26], argTypes := #[24] }, 73, _, _, _⟩) rfl (fun K hK => ?_) AllReadyH.nil
    go_simp
    ((refine (of_any _ _).mono ?_); (rintro e wn ⟨rfl, hb⟩); (try replace Rn := Rn.later hb))
    go_wp2_with fail
    refine hK.out _ _ ?hSr2_20_3 fun _ => ?_
    case hSr2_20_3 => (first | exact ⟨a0, a1, p0, p1, hbT.drew⟩ | exact ⟨cl hb hH.1, cl hb hH.2.1, cl hb hH.2.2.1, cl hb hH.2.2.2.1, below_step hH.2.2.2.2 hb⟩)
    clear hK K hH; rename_i hH
    rename World => wq
    (try simp only [Act.put, nz1, nz2, nz3])
    refine wpAnyH_ready (rs := [4]) (by kernel_rfl) (by simp) ?_
    refine AllReadyH.cons (o := ⟨some 28, .call { callee := .value (.func 135), args := #[.tmp 24, .tmp 27], argTypes := #[73, 73] }, 138, _, _, _⟩) rfl (fun K hK => ?_) AllReadyH.nil
    go_simp
    ((refine (hA2 _).mono ?_); (rintro e wn ⟨rfl, hb⟩); (try replace Rn := Rn.later hb))
    go_wp2_with fail
    refine hK.out _ _ ?hSr2_21_4 fun _ => ?_
    case hSr2_21_4 => (first | exact ⟨a0, a1, p0, p1, hbT.drew⟩ | exact ⟨cl hb hH.1, cl hb hH.2.1, cl hb hH.2.2.1, cl hb hH.2.2.2.1, below_step hH.2.2.2.2 hb⟩)
    clear hK K hH; rename_i hH
    rename World => wq
    (try simp only [Act.put, nz1, nz2, nz3])
    refine tk 5 ⟨some 23, .move (.tmp 28), 138, _, _, _⟩ hH ?_
    refine tk 6 ⟨some 29, .extract (.tmp 23) 0, 73, _, _, _⟩ hH ?_
    refine tk 7 ⟨some 30, .extract (.tmp 23) 1, 4, _, _, _⟩ hH ?_
    refine wpAnyH_ready (rs := [9]) (by kernel_rfl) (by simp) ?_
    refine AllReadyH.cons (o := ⟨none, .store 73 (.tmp 8) (.tmp 29), 0, _, _, _⟩) rfl (fun K hK => ?_) AllReadyH.nil
    ((have c0 := Rn.cell 0); (have c1 := Rn.cell 1); (simp at c0 c1); (have f0 := Rn.frozen 0); (have f1 := Rn.frozen 1); go_simp; clear c0 c1 f0 f1; (have Rm := (Rn.set 0 (.int .u64 (t1))).set 1 (.int .u64 (t2))); (simp at Rm))
    refine hK.out _ _ ?hSr2_25_9 fun _ => ?_
    case hSr2_25_9 => (exact ⟨(World.cell?_setCell_far _ _ _ _ ne0.symm).trans ((World.cell?_setCell_far _ _ _ _ ne0.symm).trans hH.1), (World.cell?_setCell_far _ _ _ _ ne1.symm).trans ((World.cell?_setCell_far _ _ _ _ ne1.symm).trans hH.2.1), (World.cell?_setCell_far _ _ _ _ ne2.symm).trans ((World.cell?_setCell_far _ _ _ _ ne2.symm).trans hH.2.2.1), (World.cell?_setCell_far _ _ _ _ ne3.symm).trans ((World.cell?_setCell_far _ _ _ _ ne3.symm).trans hH.2.2.2.1), (hH.2.2.2.2.setCell mn _).setCell mn _⟩)
    clear hK K hH; rename_i hH
    rename World => wq
    (try simp only [Act.put, nz1, nz2, nz3])
    refine tk 10 ⟨some 9, .assign (.tmp 30), 4, _, _, _⟩ hH ?_
    refine wpAnyH_done (by kernel_rfl) ?_ _
    (go_wp2_with fail; go_meet; exact ⟨gs, rfl, rfl, (by simpa using Rm.cell 0), (by simpa using Rm.cell 1), hH⟩)
  case rest =>
   clear a0 a1 hbT p0 p1 hA2
   obtain ⟨gs, rfl, rfl, q0, q1, a0, a1, p0, p1, hbT⟩ := hcut
   obtain ⟨RR, hb0⟩ := HF.out
   clear HF a0 a1 p0 p1
   replace RR := RR.later hbT
   replace hbT := below_step hb0 hbT
   clear hb0
   have r0 := (RR.cell 0).trans (show _ = some (Value.int .u64 0) from rfl)
   have r1 := (RR.cell 1).trans (show _ = some (Value.int .u64 0) from rfl)
   have f0 := RR.frozen 0
   have f1 := RR.frozen 1
   have Rf := (RR.set 0 (.int .u64 t1)).set 1 (.int .u64 t2)
   have e0 := (Rf.cell 0).trans (show _ = some (Value.int .u64 t1) from rfl)
   have e1 := (Rf.cell 1).trans (show _ = some (Value.int .u64 t2) from rfl)
   have HE := Lib.hid (And.intro e0 (And.intro e1 hbT))
   clear RR Rf e0 e1 hbT
   cases o with
   | true =>
    go_wp2
    obtain ⟨e0, e1, hbT⟩ := HE.out
    exact bodyPost_ret (v := .tuple #[.agg #[.int .u64 t1, .int .u64 t2], .bool false]) (by simp only [results, Tryz.results103]; simp [go_sem, e0, e1]) rfl ⟨rfl, (hbT.setCell (by dsimp only; omega) _).setCell (by dsimp only; omega) _⟩
   | false =>
    go_wp2
    obtain ⟨e0, e1, hbT⟩ := HE.out
    exact bodyPost_ret (v := .tuple #[.agg #[.int .u64 t1, .int .u64 t2], .bool (!b)]) (by simp only [results, Tryz.results103]; simp [go_sem, e0, e1]) rfl ⟨by simp, (hbT.setCell (by dsimp only; omega) _).setCell (by dsimp only; omega) _⟩
theorem ext_high (ah al q : Int) (d : Int) (hq : ¬ q = 0) (w : World)
  (hR : ∀ w, Calls Tryz.prog 118 #[.agg #[.int .u64 ah, .int .u64 al], .int .i64 125] w fun e w' => e = .returned (.agg #[.int .u64 0, .int .u64 q]) ∧ Below w.heap.size w w') :
  Calls Tryz.prog 103 #[.agg #[.int .u64 ah, .int .u64 al], .int .u8 d] w fun e w' => e = .returned (.tuple #[.agg #[.int .u64 0, .int .u64 0], .bool false]) ∧ Below w.heap.size w w' := by
 have hq' : decide (q = 0) = false := by simp [hq]
 have hq2 : (q == 0) = false := by simp [hq]
 have hbT : Below w.heap.size w ((w.alloc (.cells #[.int .u64 ah, .int .u64 al] 73)).alloc (.cells #[.int .u64 0, .int .u64 0] 73)) := (by repeat (first | exact Below.refl _ _ | assumption | (with_reducible refine Below.drew ?_) | ((with_reducible first | refine Below.setCell ?_ ?h _ | refine Below.alloc ?_ ?h _); case h => first | omega | (simp; done) | (simp; omega))))
 have RR : Row ((w.alloc (.cells #[.int .u64 ah, .int .u64 al] 73)).alloc (.cells #[.int .u64 0, .int .u64 0] 73)) (w.heap.size + 1) #[.int .u64 0, .int .u64 0] 73 := by
  have := Row.new (w.alloc (.cells #[.int .u64 ah, .int .u64 al] 73)) #[.int .u64 0, .int .u64 0] 73
  rwa [World.size_alloc] at this
 have HW := Lib.hid (And.intro hbT RR)
 clear hbT RR
 go_enter Tryz.func103, Tryz.ntmps103
 go_wp2_with fail
 obtain ⟨hbT, RR⟩ := HW.out
 clear HW
 generalize ((w.alloc (.cells #[.int .u64 ah, .int .u64 al] 73)).alloc (.cells #[.int .u64 0, .int .u64 0] 73)) = w0 at *
 refine (hR w0).mono ?_
 rintro e w1 ⟨rfl, hx⟩
 replace RR := RR.later hx
 replace hbT := below_step hbT hx
 clear hx hR
 have HW := Lib.hid (And.intro hbT RR)
 clear hbT RR
 go_wp2_with fail
 refine (of_any 0 w1).mono ?_
 rintro e w2 ⟨rfl, hx⟩
 obtain ⟨hbT, RR⟩ := HW.out
 clear HW
 replace RR := RR.later hx
 replace hbT := below_step hbT hx
 clear hx
 have r0 := (RR.cell 0).trans (show _ = some (Value.int .u64 0) from rfl)
 have r1 := (RR.cell 1).trans (show _ = some (Value.int .u64 0) from rfl)
 have f0 := RR.frozen 0
 have f1 := RR.frozen 1
 have Rf := (RR.set 0 (.int .u64 0)).set 1 (.int .u64 0)
 have e0 := (Rf.cell 0).trans (show _ = some (Value.int .u64 0) from rfl)
 have e1 := (Rf.cell 1).trans (show _ = some (Value.int .u64 0) from rfl)
 have HE := Lib.hid (And.intro e0 (And.intro e1 hbT))
 clear RR Rf e0 e1 hbT
 go_wp2
 obtain ⟨e0, e1, hbT⟩ := HE.out
 exact bodyPost_ret (v := .tuple #[.agg #[.int .u64 0, .int .u64 0], .bool false]) (by simp only [results, Tryz.results103]; simp [go_sem, e0, e1]) rfl ⟨rfl, (hbT.setCell (by dsimp only; omega) _).setCell (by dsimp only; omega) _⟩
def xtV (A d : Int) : Int := if A < 42535295865117307932921825928971026432 then 10 * A + d else 0
theorem extend_t (A d : Int) (h0 : 0 ≤ A) (h1 : A < MM) (hd0 : 0 ≤ d) (hd1 : d ≤ 255) (w : World) :
  Calls Tryz.prog 103 #[.agg #[.int .u64 (hi A), .int .u64 (lo A)], .int .u8 d] w fun e w' => e = .returned (.tuple #[.agg #[.int .u64 (hi (xtV A d)), .int .u64 (lo (xtV A d))], .bool (decide (10 * A + d < MM))]) ∧ Below w.heap.size w w' := by
 have hM : (MM : Int) = 340282366920938463463374607431768211456 := rfl
 have hR := fun w => right_h A 125 w
 rw [Int.emod_eq_of_lt h0 h1, show (2 : Int) ^ (125 : Int).toNat = 42535295865117307932921825928971026432 from rfl] at hR
 unfold xtV
 by_cases hA : A < 42535295865117307932921825928971026432
 ·rw [if_pos hA]
  rw [show A / 42535295865117307932921825928971026432 = 0 from Int.ediv_eq_zero_of_lt h0 hA, show hi 0 = 0 from rfl, show lo 0 = 0 from rfl] at hR
  have hL3 := fun w => left_h A 3 w
  have hL1 := fun w => left_h A 1 w
  rw [show A * (2 : Int) ^ (3 : Int).toNat = 8 * A by rw [show (2 : Int) ^ (3 : Int).toNat = 8 from rfl]; omega] at hL3
  rw [show A * (2 : Int) ^ (1 : Int).toNat = 2 * A by rw [show (2 : Int) ^ (1 : Int).toNat = 2 from rfl]; omega] at hL1
  have hA1 := fun w => add_h (8 * A) (2 * A) w
  have hA2 := fun w => add_h (8 * A + 2 * A) d w
  rw [show hi d = 0 by unfold hi; omega, show lo d = d by unfold lo; omega] at hA2
  have h := ext_walk (hi A) (lo A) d _ _ _ _ _ _ _ _ _ _ hd0 hd1 w hR hL3 hL1 hA1 hA2
  rw [show 8 * A + 2 * A + d = 10 * A + d by omega] at h
  have e : (!addB (8 * A % MM) (2 * A % MM) && !addB ((8 * A + 2 * A) % MM) (d % MM)) = decide (10 * A + d < MM) := by
   unfold addB
   rw [Int.emod_eq_of_lt (a := 8 * A) (by omega) (by omega), Int.emod_eq_of_lt (a := 2 * A) (by omega) (by omega), Int.emod_eq_of_lt (a := d) (by omega) (by omega)]
   by_cases hc : 8 * A + 2 * A < MM
   ·rw [Int.emod_eq_of_lt (by omega) hc]
    rw [Bool.eq_iff_iff]
    simp
    omega
   ·rw [Bool.eq_iff_iff]
    simp
    omega
  rwa [e] at h
 ·rw [if_neg hA]
  have q1 : 1 ≤ A / 42535295865117307932921825928971026432 ∧ A / 42535295865117307932921825928971026432 < 8 := by omega
  rw [show hi (A / 42535295865117307932921825928971026432) = 0 by unfold hi; omega, show lo (A / 42535295865117307932921825928971026432) = A / 42535295865117307932921825928971026432 by unfold lo; omega] at hR
  have h := ext_high (hi A) (lo A) _ d (by omega) w hR
  rw [show decide (10 * A + d < MM) = false by simp; omega]
  exact h
def valA (a : Nat) (l : List UInt8) : Nat := l.foldl (fun a c => 10 * a + (c.toNat - 48)) a
def valT (l : List UInt8) : Nat := valA 0 l
theorem valA_le : ∀ (l : List UInt8) (a : Nat), a ≤ valA a l
 | [], a => Nat.le_refl a
 | c :: r, a => by
  have := valA_le r (10 * a + (c.toNat - 48))
  show a ≤ valA (10 * a + (c.toNat - 48)) r
  omega
theorem valA_append (l m : List UInt8) (a : Nat) : valA a (l ++ m) = valA (valA a l) m := List.foldl_append
theorem valT_take (l : List UInt8) (k : Nat) : valT (l.take k) ≤ valT l := by
 have h : l = l.take k ++ l.drop k := (List.take_append_drop k l).symm
 have e : valT l = valA (valT (l.take k)) (l.drop k) := by
  conv => lhs; rw [h]
  exact valA_append _ _ 0
 rw [e]
 exact valA_le _ _
theorem valT_step (l : List UInt8) (k : Nat) (h : k < l.length) : valT (l.take (k + 1)) = 10 * valT (l.take k) + (l[k].toNat - 48) := by
 rw [List.take_succ_eq_append_getElem h]
 exact valA_append _ _ 0
def pw (l : List UInt8) : Int × Int := if txB l = true then (if (valT l : Int) < MM then ((valT l : Int), 0) else (0, 11)) else (0, 3)
theorem pw_bad {l : List UInt8} (h : txB l = false) : pw l = (0, 3) := by unfold pw; rw [if_neg (by simp [h])]
theorem pw_ok {l : List UInt8} (h : txB l = true) (hv : (valT l : Int) < MM) : pw l = ((valT l : Int), 0) := by unfold pw; rw [if_pos h, if_pos hv]
theorem pw_over {l : List UInt8} (h : txB l = true) (hv : ¬ (valT l : Int) < MM) : pw l = (0, 11) := by unfold pw; rw [if_pos h, if_neg hv]
theorem txB_dig {l : List UInt8} (h : txB l = true) (k : Nat) (hk : k < l.length) : 48 ≤ l[k].toNat ∧ l[k].toNat ≤ 57 := by
 unfold txB at h
 rw [Bool.and_eq_true, List.all_eq_true] at h
 have := h.1 _ (List.getElem_mem hk)
 simpa [dgB] using this
theorem pwide_t (l : List UInt8) (hl : l.length ≤ 2000000) (w : World) : Calls Tryz.prog 61 #[.string ⟨l.toArray⟩] w fun e w' => e = .returned (.tuple #[.agg #[.int .u64 (hi (pw l).1), .int .u64 (lo (pw l).1)], .int .i64 (pw l).2]) ∧ Below w.heap.size w w' := by
 have hsz := bs_sizeN l
 have R0 := Row.new w #[.int .u64 0, .int .u64 0] 73
 have hb : Below w.heap.size w (w.alloc (.cells #[.int .u64 0, .int .u64 0] 73)) := (by repeat (first | exact Below.refl _ _ | assumption | (with_reducible refine Below.drew ?_) | ((with_reducible first | refine Below.setCell ?_ ?h _ | refine Below.alloc ?_ ?h _ | refine Below.trans ?_ (hb2.mono ?h) | refine Below.trans ?_ (hb.mono ?h)); case h => first | omega | (simp; done) | (simp; omega))))
 have HW := Lib.hid (And.intro R0 hb)
 clear R0 hb
 have hi0 : hi 0 = 0 := rfl
 have lo0 : lo 0 = 0 := rfl
 go_enter Tryz.func61, Tryz.ntmps61
 go_wp2_with fail
 obtain ⟨R0, hb⟩ := HW.out
 clear HW
 generalize w.alloc (.cells #[.int .u64 0, .int .u64 0] 73) = w0 at *
 refine (isText_t l hl w0).mono ?_
 rintro e w1 ⟨rfl, hb2⟩
 replace R0 := R0.later hb2
 replace hb := below_step hb hb2
 clear hb2
 cases htx : txB l with
 | false =>
  have HP := Lib.hid (pw_bad htx)
  clear htx
  have r0 := (R0.cell 0).trans (show _ = some (Value.int .u64 0) from rfl)
  have r1 := (R0.cell 1).trans (show _ = some (Value.int .u64 0) from rfl)
  have f0 := R0.frozen 0
  have f1 := R0.frozen 1
  have Rf := (R0.set 0 (.int .u64 0)).set 1 (.int .u64 0)
  have e0 := (Rf.cell 0).trans (show _ = some (Value.int .u64 0) from rfl)
  have e1 := (Rf.cell 1).trans (show _ = some (Value.int .u64 0) from rfl)
  have HE := Lib.hid (And.intro e0 (And.intro e1 hb))
  clear R0 Rf e0 e1 hb
  go_wp2
  obtain ⟨e0, e1, hb⟩ := HE.out
  exact bodyPost_ret (v := .tuple #[.agg #[.int .u64 0, .int .u64 0], .int .i64 3]) (by simp only [results, Tryz.results61]; simp [go_sem, e0, e1]) rfl ⟨by rw [HP.out, hi0, lo0], (hb.setCell (by dsimp only; omega) _).setCell (by dsimp only; omega) _⟩
 | true =>
  have hg := R0.lt
  have R0b := R0.alloc (.cells #[.int .u64 0, .int .u64 0] 73)
  have R1 := Row.new w1 #[.int .u64 0, .int .u64 0] 73
  have hbb : Below w.heap.size w (w1.alloc (.cells #[.int .u64 0, .int .u64 0] 73)) := below_step hb ((Below.refl _ _).alloc (Nat.le_refl _) _)
  have hsz1 := hb.size
  have HW := Lib.hid (And.intro R0b (And.intro R1 hbb))
  clear R0 R0b R1 hbb hb
  have HT := Lib.hid htx
  clear htx
  go_wp2_with fail
  generalize w1.alloc (.cells #[.int .u64 0, .int .u64 0] 73) = w2 at *
  have hgl : Hid (w.heap.size ≤ w1.heap.size ∧ w.heap.size < w1.heap.size) := Lib.hid ⟨hsz1, hg⟩
  clear hsz1 hg
  generalize w1.heap.size = ga at *
  go_loopw [15] (fun i wr => ∃ (j : Nat), j ≤ l.length ∧ i = .int .i64 j ∧ (valT (l.take j) : Int) < MM ∧ Row wr w.heap.size #[.int .u64 0, .int .u64 0] 73 ∧ Row wr ga #[.int .u64 (hi (valT (l.take j))), .int .u64 (lo (valT (l.take j)))] 73 ∧ Below w.heap.size w wr) (fun i _ => l.length - (intOf i).toNat)
  case atStart => 
   obtain ⟨R0, R1, hb⟩ := HW.out
   exact ⟨0, by omega, rfl, by rw [List.take_zero]; decide, R0, by rw [List.take_zero]; exact R1, hb⟩
  case round =>
   clear HW
   obtain ⟨j, hj, rfl, hv, R0, R1, hb⟩ := hrel
   by_cases hlt : j < l.length
   ·have hst := valT_step l j hlt
    obtain ⟨hc1, hc2⟩ := txB_dig HT.out j hlt
    obtain ⟨c, hlj⟩ : ∃ c, l[j] = c := ⟨_, rfl⟩
    rw [hlj] at hst hc1 hc2
    have hsp : j < (⟨l.toArray⟩ : ByteArray).size := by rw [hsz]; exact hlt
    have hch : (⟨l.toArray⟩ : ByteArray)[j]'hsp = c := hlj
    clear hlj
    have hle := valT_take l (j + 1)
    rw [hst] at hle
    have HS := Lib.hid (And.intro hst hle)
    clear hst hle
    obtain ⟨d, hd⟩ : ∃ d : Int, d = (c.toNat : Int) - 48 := ⟨_, rfl⟩
    have hd1 : 0 ≤ d ∧ d ≤ 255 := by omega
    have hx := fun w => extend_t (valT (l.take j) : Int) d (by omega) hv hd1.1 hd1.2 w
    have hwr : IntKind.u8.wrap ((c.toNat : Int) - 48) = d := by rw [← hd]; simp [IntKind.wrap, IntKind.bits, IntKind.signed]; omega
    generalize valT (l.take j) = v at *
    have hjl : (j : Int) < (l.length : Int) := by omega
    have a0 := (R1.cell 0).trans (show _ = some (Value.int .u64 (hi (v : Nat))) from rfl)
    have a1 := (R1.cell 1).trans (show _ = some (Value.int .u64 (lo (v : Nat))) from rfl)
    have HR := Lib.hid (And.intro R0 (And.intro R1 hb))
    have HD := Lib.hid (And.intro hd (And.intro hc1 hc2))
    have hbT : Below wr.heap.size wr wr := Below.refl _ _
    clear R0 R1 hb hd hc1 hc2 hd1
    have HA := Lib.hid (And.intro a0 (And.intro a1 hbT))
    clear a0 a1 hbT
    go_wp2_with fail
    obtain ⟨a0, a1, hbT⟩ := HA.out
    clear HA
    go_cut [6, 7] (fun s6 s7 wx => ∃ gn : Nat, s6 = .pointer (some ⟨gn, 0, none⟩) ∧ s7 = .bool (decide (10 * (v : Int) + d < MM)) ∧ wx.cell? ⟨gn, 0, none⟩ = some (.int .u64 (hi (xtV v d))) ∧ wx.cell? ⟨gn, 1, none⟩ = some (.int .u64 (lo (xtV v d))) ∧ wx.cell? ⟨ga, 0, none⟩ = some (.int .u64 (hi (v : Nat))) ∧ wx.cell? ⟨ga, 1, none⟩ = some (.int .u64 (lo (v : Nat))) ∧ Below wr.heap.size wr wx)
    case first =>
     refine region_any (S := (fun w' => w'.cell? ⟨ga, 0, none⟩ = some (.int .u64 (hi (v : Nat))) ∧ w'.cell? ⟨ga, 1, none⟩ = some (.int .u64 (lo (v : Nat))) ∧ Below wr.heap.size wr w')) (by kernel_rfl) ?hSr1_ (fun wq hH => ?_)
     case hSr1_ => (first | exact ⟨a0, a1, hbT.drew⟩ | exact ⟨cl hb hH.1, cl hb hH.2.1, below_step hH.2.2 hb⟩)
     refine tk 0 ⟨some 19, .load 73 (.tmp 4), 73, _, _, _⟩ hH ?_
     refine tk 1 ⟨some 20, .move (.tmp 0), 9, _, _, _⟩ hH ?_
     refine tk 2 ⟨some 21, .move (.tmp 5), 3, _, _, _⟩ hH ?_
     refine tk 3 ⟨some 22, .index 9 (.tmp 20) (.tmp 21), 5, _, _, _⟩ hH ?_
     refine tk 4 ⟨some 23, .binOp .sub 5 (.tmp 22) (.const (.int .u8 48)) 5, 5, _, _, _⟩ hH ?_
     refine wpAnyH_ready (rs := [5, 9]) (by kernel_rfl) (by simp) ?_
     refine AllReadyH.cons (o := ⟨some 24, .call { callee := .value (.func 103), args := #[.tmp 19, .tmp 23], argTypes := #[73, 5] }, 138, _, _, _⟩) rfl (fun K hK => ?_) ?_
     ·go_simp
      ((refine (hx _).mono ?_); (rintro e wn ⟨rfl, hb⟩); (try replace Rn := Rn.later hb))
      go_wp2_with fail
      refine hK.out _ _ ?hSr1_6_5 fun _ => ?_
      case hSr1_6_5 => (first | exact ⟨a0, a1, hbT.drew⟩ | exact ⟨cl hb hH.1, cl hb hH.2.1, below_step hH.2.2 hb⟩)
      clear hK K hH; rename_i hH
      rename World => wq
      (try simp only [Act.put, nz1, nz2, nz3])
      refine tk 6 ⟨some 18, .move (.tmp 24), 138, _, _, _⟩ hH ?_
      refine tk 7 ⟨some 25, .extract (.tmp 18) 0, 73, _, _, _⟩ hH ?_
      refine tk 8 ⟨some 26, .extract (.tmp 18) 1, 4, _, _, _⟩ hH ?_
      refine wpAnyH_ready (rs := [9]) (by kernel_rfl) (by simp) ?_
      refine AllReadyH.cons (o := ⟨some 6, .alloc 73, 0, _, _, _⟩) rfl (fun K hK => ?_) AllReadyH.nil
      (go_simp; (have ne0 := Nat.ne_of_lt (World.block_lt_of_cell? _ _ hH.1)); (have ne1 := Nat.ne_of_lt (World.block_lt_of_cell? _ _ hH.2.1)); (have mn := hH.2.2.size); (have Rn := Row.new wq #[.int .u64 0, .int .u64 0] 73); (have hb : Below wq.heap.size wq (wq.alloc (.cells #[.int .u64 0, .int .u64 0] 73)) := (Below.refl _ _).alloc (Nat.le_refl _) _); (have hSn := And.intro (cl hb hH.1) (And.intro (cl hb hH.2.1) (below_step hH.2.2 hb))); clear hb; generalize wq.alloc (.cells #[.int .u64 0, .int .u64 0] 73) = wn at *; generalize wq.heap.size = gn at *)
      refine hK.out _ _ ?hSr1_10_9 fun _ => ?_
      case hSr1_10_9 => (exact hSn)
      clear hK K hH; rename_i hH
      rename World => wq
      (try simp only [Act.put, nz1, nz2, nz3])
      refine wpAnyH_ready (rs := [10]) (by kernel_rfl) (by simp) ?_
      refine AllReadyH.cons (o := ⟨none, .store 73 (.tmp 6) (.tmp 25), 0, _, _, _⟩) rfl (fun K hK => ?_) AllReadyH.nil
      ((have c0 := Rn.cell 0); (have c1 := Rn.cell 1); (simp at c0 c1); (have f0 := Rn.frozen 0); (have f1 := Rn.frozen 1); go_simp; clear c0 c1 f0 f1; (have Rm := (Rn.set 0 (.int .u64 (hi (xtV v d)))).set 1 (.int .u64 (lo (xtV v d)))); (simp at Rm))
      refine hK.out _ _ ?hSr1_11_10 fun _ => ?_
      case hSr1_11_10 => (exact ⟨(World.cell?_setCell_far _ _ _ _ ne0.symm).trans ((World.cell?_setCell_far _ _ _ _ ne0.symm).trans hH.1), (World.cell?_setCell_far _ _ _ _ ne1.symm).trans ((World.cell?_setCell_far _ _ _ _ ne1.symm).trans hH.2.1), (hH.2.2.setCell mn _).setCell mn _⟩)
      clear hK K hH; rename_i hH
      rename World => wq
      (try simp only [Act.put, nz1, nz2, nz3])
      refine tk 11 ⟨some 7, .assign (.tmp 26), 4, _, _, _⟩ hH ?_
      refine wpAnyH_done (by kernel_rfl) ?_ _
      (go_wp2_with fail; go_meet; exact ⟨gn, rfl, rfl, (by simpa using Rm.cell 0), (by simpa using Rm.cell 1), hH⟩)
     refine AllReadyH.cons (o := ⟨some 6, .alloc 73, 0, _, _, _⟩) rfl (fun K hK => ?_) AllReadyH.nil
     ·(go_simp; (have ne0 := Nat.ne_of_lt (World.block_lt_of_cell? _ _ hH.1)); (have ne1 := Nat.ne_of_lt (World.block_lt_of_cell? _ _ hH.2.1)); (have mn := hH.2.2.size); (have Rn := Row.new wq #[.int .u64 0, .int .u64 0] 73); (have hb : Below wq.heap.size wq (wq.alloc (.cells #[.int .u64 0, .int .u64 0] 73)) := (Below.refl _ _).alloc (Nat.le_refl _) _); (have hSn := And.intro (cl hb hH.1) (And.intro (cl hb hH.2.1) (below_step hH.2.2 hb))); clear hb; generalize wq.alloc (.cells #[.int .u64 0, .int .u64 0] 73) = wn at *; generalize wq.heap.size = gn at *)
      refine hK.out _ _ ?hSr1_13_9 fun _ => ?_
      case hSr1_13_9 => (exact hSn)
      clear hK K hH; rename_i hH
      rename World => wq
      (try simp only [Act.put, nz1, nz2, nz3])
      refine wpAnyH_ready (rs := [5]) (by kernel_rfl) (by simp) ?_
      refine AllReadyH.cons (o := ⟨some 24, .call { callee := .value (.func 103), args := #[.tmp 19, .tmp 23], argTypes := #[73, 5] }, 138, _, _, _⟩) rfl (fun K hK => ?_) AllReadyH.nil
      go_simp
      ((refine (hx _).mono ?_); (rintro e wn ⟨rfl, hb⟩); (try replace Rn := Rn.later hb))
      go_wp2_with fail
      refine hK.out _ _ ?hSr1_14_5 fun _ => ?_
      case hSr1_14_5 => (first | exact ⟨a0, a1, hbT.drew⟩ | exact ⟨cl hb hH.1, cl hb hH.2.1, below_step hH.2.2 hb⟩)
      clear hK K hH; rename_i hH
      rename World => wq
      (try simp only [Act.put, nz1, nz2, nz3])
      refine tk 6 ⟨some 18, .move (.tmp 24), 138, _, _, _⟩ hH ?_
      refine tk 7 ⟨some 25, .extract (.tmp 18) 0, 73, _, _, _⟩ hH ?_
      refine tk 8 ⟨some 26, .extract (.tmp 18) 1, 4, _, _, _⟩ hH ?_
      refine wpAnyH_ready (rs := [10]) (by kernel_rfl) (by simp) ?_
      refine AllReadyH.cons (o := ⟨none, .store 73 (.tmp 6) (.tmp 25), 0, _, _, _⟩) rfl (fun K hK => ?_) AllReadyH.nil
      ((have c0 := Rn.cell 0); (have c1 := Rn.cell 1); (simp at c0 c1); (have f0 := Rn.frozen 0); (have f1 := Rn.frozen 1); go_simp; clear c0 c1 f0 f1; (have Rm := (Rn.set 0 (.int .u64 (hi (xtV v d)))).set 1 (.int .u64 (lo (xtV v d)))); (simp at Rm))
      refine hK.out _ _ ?hSr1_18_10 fun _ => ?_
      case hSr1_18_10 => (exact ⟨(World.cell?_setCell_far _ _ _ _ ne0.symm).trans ((World.cell?_setCell_far _ _ _ _ ne0.symm).trans hH.1), (World.cell?_setCell_far _ _ _ _ ne1.symm).trans ((World.cell?_setCell_far _ _ _ _ ne1.symm).trans hH.2.1), (hH.2.2.setCell mn _).setCell mn _⟩)
      clear hK K hH; rename_i hH
      rename World => wq
      (try simp only [Act.put, nz1, nz2, nz3])
      refine tk 11 ⟨some 7, .assign (.tmp 26), 4, _, _, _⟩ hH ?_
      refine wpAnyH_done (by kernel_rfl) ?_ _
      (go_wp2_with fail; go_meet; exact ⟨gn, rfl, rfl, (by simpa using Rm.cell 0), (by simpa using Rm.cell 1), hH⟩)
    case rest =>
     clear a0 a1 hbT hx hwr hch
     obtain ⟨gn, rfl, rfl, q0, q1, a0, a1, hbT⟩ := hcut
     clear a0 a1
     obtain ⟨R0, R1, hb⟩ := HR.out
     clear HR
     replace R0 := R0.later hbT
     replace R1 := R1.later hbT
     replace hb := below_step hb hbT
     obtain ⟨hg1, hg2⟩ := hgl.out
     clear hbT
     by_cases hok : 10 * (v : Int) + d < MM
     ·have hdec : decide (10 * (v : Int) + d < MM) = true := by simp [hok]
      rw [hdec]
      obtain ⟨hd, hc1, hc2⟩ := HD.out
      have hxv : xtV (v : Int) d = ((10 * v + (c.toNat - 48) : Nat) : Int) := by
       have hM : (MM : Int) = 340282366920938463463374607431768211456 := rfl
       unfold xtV; rw [if_pos (by omega)]; omega
      have hv2 : ((10 * v + (c.toNat - 48) : Nat) : Int) < MM := by omega
      rw [hxv] at q0 q1
      obtain ⟨hst, hle⟩ := HS.out
      rw [← hst] at q0 q1 hv2
      clear hxv hst hle HS hd hc1 hc2 HD hok hdec
      obtain ⟨v2, ev⟩ : ∃ v2, valT (l.take (j + 1)) = v2 := ⟨_, rfl⟩
      rw [ev] at q0 q1 hv2
      have HV := Lib.hid ev
      clear ev
      have s0 := (R1.cell 0).trans (show _ = some (Value.int .u64 (hi (v : Nat))) from rfl)
      have s1 := (R1.cell 1).trans (show _ = some (Value.int .u64 (lo (v : Nat))) from rfl)
      have f0 := R1.frozen 0
      have f1 := R1.frozen 1
      have R1n := (R1.set 0 (.int .u64 (hi (v2 : Nat)))).set 1 (.int .u64 (lo (v2 : Nat)))
      have R0n := (R0.set_far ⟨ga, 0, none⟩ (.int .u64 (hi (v2 : Nat))) (by dsimp only; omega)).set_far ⟨ga, 1, none⟩ (.int .u64 (lo (v2 : Nat))) (by dsimp only; omega)
      have hbn := (hb.setCell (show w.heap.size ≤ (⟨ga, 0, none⟩ : Addr).block by dsimp only; omega) (.int .u64 (hi (v2 : Nat)))).setCell (show w.heap.size ≤ (⟨ga, 1, none⟩ : Addr).block by dsimp only; omega) (.int .u64 (lo (v2 : Nat)))
      have HE := Lib.hid (And.intro R0n (And.intro R1n hbn))
      clear R0 R1 hb R1n R0n hbn
      go_wp2
      obtain ⟨R0n, R1n, hbn⟩ := HE.out
      exact ⟨⟨j + 1, by omega, by go_num, by rw [HV.out]; exact hv2, R0n, by rw [HV.out]; exact R1n, hbn⟩, by simp [intOf]; omega⟩
     ·have hdec : decide (10 * (v : Int) + d < MM) = false := by simp; omega
      rw [hdec]
      obtain ⟨hd, hc1, hc2⟩ := HD.out
      obtain ⟨hst, hle⟩ := HS.out
      have HP := Lib.hid (pw_over HT.out (by omega))
      clear hst hle HS hd hc1 hc2 HD hok hdec
      have s0 := (R0.cell 0).trans (show _ = some (Value.int .u64 0) from rfl)
      have s1 := (R0.cell 1).trans (show _ = some (Value.int .u64 0) from rfl)
      have f0 := R0.frozen 0
      have f1 := R0.frozen 1
      have Rf := (R0.set 0 (.int .u64 0)).set 1 (.int .u64 0)
      have e0 := (Rf.cell 0).trans (show _ = some (Value.int .u64 0) from rfl)
      have e1 := (Rf.cell 1).trans (show _ = some (Value.int .u64 0) from rfl)
      have HE := Lib.hid (And.intro e0 (And.intro e1 hb))
      clear R0 R1 Rf e0 e1 hb
      go_wp2
      obtain ⟨e0, e1, hb⟩ := HE.out
      exact bodyPost_ret (v := .tuple #[.agg #[.int .u64 0, .int .u64 0], .int .i64 11]) (by simp only [results, Tryz.results61]; simp [go_sem, e0, e1]) rfl ⟨by rw [HP.out, hi0, lo0], (hb.setCell (by dsimp only; omega) _).setCell (by dsimp only; omega) _⟩
   ·have hjl : ¬ (j : Int) < (l.length : Int) := by omega
    rw [List.take_of_length_le (by omega)] at hv R1
    have HP := Lib.hid (pw_ok HT.out hv)
    clear hv
    generalize valT l = v at *
    obtain ⟨hg1, hg2⟩ := hgl.out
    have s0 := (R0.cell 0).trans (show _ = some (Value.int .u64 0) from rfl)
    have s1 := (R0.cell 1).trans (show _ = some (Value.int .u64 0) from rfl)
    have f0 := R0.frozen 0
    have f1 := R0.frozen 1
    have a0 := (R1.cell 0).trans (show _ = some (Value.int .u64 (hi (v : Nat))) from rfl)
    have a1 := (R1.cell 1).trans (show _ = some (Value.int .u64 (lo (v : Nat))) from rfl)
    have Rf := (R0.set 0 (.int .u64 (hi (v : Nat)))).set 1 (.int .u64 (lo (v : Nat)))
    have e0 := (Rf.cell 0).trans (show _ = some (Value.int .u64 (hi (v : Nat))) from rfl)
    have e1 := (Rf.cell 1).trans (show _ = some (Value.int .u64 (lo (v : Nat))) from rfl)
    have HE := Lib.hid (And.intro e0 (And.intro e1 hb))
    clear R0 R1 Rf e0 e1 hb
    go_wp2
    obtain ⟨e0, e1, hb⟩ := HE.out
    exact bodyPost_ret (v := .tuple #[.agg #[.int .u64 (hi (v : Nat)), .int .u64 (lo (v : Nat))], .int .i64 0]) (by simp only [results, Tryz.results61]; simp [go_sem, e0, e1]) rfl ⟨by rw [HP.out], (hb.setCell (by dsimp only; omega) _).setCell (by dsimp only; omega) _⟩
def pn (l : List UInt8) (m : Int) : Int × Int := if (pw l).2 = 0 then (if (pw l).1 ≤ m then ((pw l).1, 0) else (0, 11)) else (0, (pw l).2)
theorem pw_range (l : List UInt8) : 0 ≤ (pw l).1 ∧ (pw l).1 < MM := by
 have hM : (MM : Int) = 340282366920938463463374607431768211456 := rfl
 unfold pw
 split
 ·split
  ·dsimp only; omega
  ·dsimp only; omega
 ·dsimp only; omega
theorem parse_t (l : List UInt8) (hl : l.length ≤ 2000000) (m : Int) (hm0 : 0 ≤ m) (hm1 : m < 18446744073709551616) (w : World) : Calls Tryz.prog 23 #[.string ⟨l.toArray⟩, .int .u64 m] w fun e w' => e = .returned (.tuple #[.int .u64 (pn l m).1, .int .i64 (pn l m).2]) ∧ Below w.heap.size w w' := by
 have hM : (MM : Int) = 340282366920938463463374607431768211456 := rfl
 obtain ⟨hr0, hr1⟩ := pw_range l
 have hpw := fun w => pwide_t l hl w
 have hcm := fun w => cmp_h (pw l).1 m w
 rw [show hi m = 0 by unfold hi; omega, show lo m = m by unfold lo; omega, Int.emod_eq_of_lt hr0 hr1, Int.emod_eq_of_lt hm0 (by omega)] at hcm
 have hlo : (pw l).1 ≤ m → lo (pw l).1 = (pw l).1 := fun h => by unfold lo; omega
 have hcg : (0 < cmpI (pw l).1 m) ↔ ¬ (pw l).1 ≤ m := by unfold cmpI; split <;> (try split) <;> omega
 have n1 : (pw l).2 = 0 → (pw l).1 ≤ m → pn l m = ((pw l).1, 0) := fun a b => by unfold pn; rw [if_pos a, if_pos b]
 have n2 : (pw l).2 = 0 → ¬ (pw l).1 ≤ m → pn l m = (0, 11) := fun a b => by unfold pn; rw [if_pos a, if_neg b]
 have n3 : ¬ (pw l).2 = 0 → pn l m = (0, (pw l).2) := fun a => by unfold pn; rw [if_neg a]
 generalize pn l m = r at *
 generalize (pw l).1 = p at *
 generalize (pw l).2 = er at *
 have HN := Lib.hid (And.intro n1 (And.intro n2 (And.intro n3 (And.intro hlo hcg))))
 clear n1 n2 n3 hlo hcg hM hr0 hr1
 have HB := Lib.hid (Below.refl w.heap.size w)
 go_enter Tryz.func23, Tryz.ntmps23
 go_wp2_with fail
 refine (hpw w).mono ?_
 rintro e w1 ⟨rfl, hb⟩
 clear HB hpw
 by_cases he : er = 0
 ·subst he
  have HK : Hid ((¬ 0 < cmpI p m ∧ r = (p, 0) ∧ lo p = p) ∨ (0 < cmpI p m ∧ r = (0, 11))) := by
   obtain ⟨n1, n2, n3, hlo, hcg⟩ := HN.out
   refine Lib.hid ?_
   by_cases hle : p ≤ m
   ·exact .inl ⟨fun h => by have := hcg.1 h; omega, n1 rfl hle, hlo hle⟩
   ·exact .inr ⟨hcg.2 (by omega), n2 rfl (by omega)⟩
  clear HN
  have c0 := (Row.new w1 #[.int .u64 (hi p), .int .u64 (lo p)] 73).cell 0
  have c1 := (Row.new w1 #[.int .u64 (hi p), .int .u64 (lo p)] 73).cell 1
  have hbn : Below w.heap.size w (w1.alloc (.cells #[.int .u64 (hi p), .int .u64 (lo p)] 73)) := below_step hb ((Below.refl _ _).alloc (Nat.le_refl _) _)
  replace c0 := c0.trans (show _ = some (Value.int .u64 (hi p)) from rfl)
  replace c1 := c1.trans (show _ = some (Value.int .u64 (lo p)) from rfl)
  have HW := Lib.hid (And.intro c0 (And.intro c1 hbn))
  clear c0 c1 hbn hb
  go_wp2_with fail
  obtain ⟨c0, c1, hbn⟩ := HW.out
  clear HW
  generalize w1.alloc (.cells #[.int .u64 (hi p), .int .u64 (lo p)] 73) = w2 at *
  generalize w1.heap.size = ga at *
  have hbd := hbn.drew
  refine wp_region_held_drew (S := (fun w' => w'.cell? ⟨ga, 0, none⟩ = some (.int .u64 (hi p)) ∧ w'.cell? ⟨ga, 1, none⟩ = some (.int .u64 (lo p)) ∧ Below w.heap.size w w')) (by kernel_rfl) ?hSr2_ (fun hH => ?_)
  case hSr2_ => (first | exact ⟨c0, c1, hbd⟩ | exact ⟨cl hb hH.1, cl hb hH.2.1, below_step hH.2.2 hb⟩)
  refine tk 0 ⟨some 16, .load 73 (.tmp 6), 73, _, _, _⟩ hH ?_
  refine tk 1 ⟨some 17, .move (.tmp 1), 24, _, _, _⟩ hH ?_
  refine wpAnyH_ready (rs := [2]) (by kernel_rfl) (by simp) ?_
  refine AllReadyH.cons (o := ⟨some 18, .call { callee := .value (.func 63), args := #[.tmp 17], argTypes := #[24] }, 73, _, _, _⟩) rfl (fun K hK => ?_) AllReadyH.nil
  go_simp
  ((refine (of_any _ _).mono ?_); (rintro e wn ⟨rfl, hb⟩))
  go_wp2_with fail
  refine hK.out _ _ ?hSr2_3_2 fun _ => ?_
  case hSr2_3_2 => (first | exact ⟨c0, c1, hbd⟩ | exact ⟨cl hb hH.1, cl hb hH.2.1, below_step hH.2.2 hb⟩)
  clear hK K hH; rename_i hH
  (try simp only [Act.put, nz1, nz2, nz3])
  refine wpAnyH_ready (rs := [3]) (by kernel_rfl) (by simp) ?_
  refine AllReadyH.cons (o := ⟨some 19, .call { callee := .value (.func 62), args := #[.tmp 16, .tmp 18], argTypes := #[73, 73] }, 3, _, _, _⟩) rfl (fun K hK => ?_) AllReadyH.nil
  go_simp
  ((refine (hcm _).mono ?_); (rintro e wm ⟨rfl, hb⟩))
  go_wp2_with fail
  refine hK.out _ _ ?hSr2_4_3 fun _ => ?_
  case hSr2_4_3 => (first | exact ⟨c0, c1, hbd⟩ | exact ⟨cl hb hH.1, cl hb hH.2.1, below_step hH.2.2 hb⟩)
  clear hK K hH; rename_i hH
  (try simp only [Act.put, nz1, nz2, nz3])
  refine tk 4 ⟨some 20, .binOp .gtr 3 (.tmp 19) (.const (.int .i64 0)) 3, 4, _, _, _⟩ hH ?_
  refine wpAnyH_done (by kernel_rfl) ?_ _
  have h0 := hH.1
  have h1 := hH.2.1
  have HB := Lib.hid hH.2.2
  clear hH
  rcases HK.out with ⟨k1, k2, k3⟩ | ⟨k1, k2⟩
  ·have q1 : ¬ 0 < cmpI p m := by omega
   have HR := Lib.hid k2
   have HL := Lib.hid k3
   clear k1 k2 k3 HK
   go_wp2
   exact bodyPost_ret (v := .tuple #[.int .u64 (lo p), .int .i64 0]) (by simp only [results, Tryz.results23]; simp [go_sem]) rfl ⟨by rw [HR.out]; exact congrArg (fun x => Ending.returned (.tuple #[.int .u64 x, .int .i64 0])) HL.out, HB.out⟩
  ·have q1 : 0 < cmpI p m := by omega
   have HR := Lib.hid k2
   clear k1 k2 HK
   go_wp2
   exact bodyPost_ret (v := .tuple #[.int .u64 0, .int .i64 11]) (by simp only [results, Tryz.results23]; simp [go_sem]) rfl ⟨by rw [HR.out], HB.out⟩
 ·have HR := Lib.hid (HN.out.2.2.1 he)
  have he' : (er == 0) = false := by simp [he]
  have hbn : Below w.heap.size w (w1.alloc (.cells #[.int .u64 (hi p), .int .u64 (lo p)] 73)) := below_step hb ((Below.refl _ _).alloc (Nat.le_refl _) _)
  have HB := Lib.hid hbn
  clear hbn hb HN
  go_wp2
  exact bodyPost_ret (v := .tuple #[.int .u64 0, .int .i64 er]) (by simp only [results, Tryz.results23]; simp [go_sem]) rfl ⟨by rw [HR.out], HB.out⟩
end Go.Proofs.YtboinifeemghaaaGreatDoor
namespace Go.Proofs.YtboinifeemghaaaGreatDoor
theorem valT_snoc (l : List UInt8) (c : UInt8) : valT (l ++ [c]) = 10 * valT l + (c.toNat - 48) := valA_append l [c] 0
theorem valT_dec (n : Nat) : valT (decN n) = n := by
 induction n using Nat.strongRecOn with
 | _ n ih =>
  by_cases h : n < 10
  ·rw [decN_small h]
   show 10 * 0 + ((dg n).toNat - 48) = n
   rw [dg_toNat]; omega
  ·rw [decN_big h, valT_snoc, ih (n / 10) (by omega), dg_toNat]; omega
theorem dec_allN (n : Nat) : (decN n).all dgB = true := by
 induction n using Nat.strongRecOn with
 | _ n ih =>
  have hd : dgB (dg n) = true := by unfold dgB; rw [dg_toNat]; simp; omega
  by_cases h : n < 10
  ·rw [decN_small h]; simp [hd]
  ·rw [decN_big h, List.all_append, ih (n / 10) (by omega)]; simp [hd]
theorem dec_head (n : Nat) (h0 : n ≠ 0) : (decN n).head? ≠ some 48 := by
 induction n using Nat.strongRecOn with
 | _ n ih =>
  by_cases h : n < 10
  ·rw [decN_small h]
   intro e
   have h2 := dg_ne (n := n) (by omega)
   simp only [List.head?_cons, Option.some.injEq] at e
   rw [e] at h2
   simp at h2
  ·rw [decN_big h]
   have hne := decN_ne (n / 10)
   have := ih (n / 10) (by omega) (by omega)
   cases hq : decN (n / 10) with
   | nil => exact absurd hq hne
   | cons a b => rw [hq] at this; simpa using this
theorem dec_tx (n : Nat) : txB (decN n) = true := by
 unfold txB
 rw [dec_allN]
 by_cases h : n = 0
 ·subst h; rw [decN_small (by omega)]; decide
 ·have h1 := decN_ne n
  have h2 := dec_head n h
  have e1 : (decN n).isEmpty = false := by simpa using h1
  have e2 : ((decN n).head? != some 48) = true := by simpa [bne_iff_ne] using h2
  rw [e1, e2]; simp
theorem dec_zero : decN 0 = [48] := by rw [decN_small (by omega)]; decide
theorem dec_val_aux : ∀ (k : Nat) (l : List UInt8), l.length = k → l ≠ [] → l.all dgB = true → l.head? ≠ some 48 → decN (valT l) = l := by
 intro k
 induction k with
 | zero => intro l h hn; exact absurd (List.length_eq_zero_iff.1 h) hn
 | succ k ih =>
  intro l hl hn ha hh
  have hsp := List.dropLast_concat_getLast hn
  generalize l.dropLast = m at hsp
  generalize l.getLast hn = c at hsp
  subst hsp
  have hm : m.length = k := by simpa using hl
  rw [List.all_append, Bool.and_eq_true] at ha
  obtain ⟨ha1, ha2⟩ := ha
  have hc : 48 ≤ c.toNat ∧ c.toNat ≤ 57 := by simpa [dgB] using ha2
  rw [valT_snoc]
  have hdg : ∀ v, dg (10 * v + (c.toNat - 48)) = c := fun v => by
   apply UInt8.toNat_inj.1
   rw [dg_toNat]; omega
  by_cases hm0 : m = []
  ·subst hm0
   have e := hdg 0
   rw [show valT [] = 0 from rfl, decN_small (by omega), e]; rfl
  ·have hh2 : m.head? ≠ some 48 := by
    cases m with
    | nil => exact absurd rfl hm0
    | cons a b => simpa using hh
   have e := ih m hm hm0 ha1 hh2
   have hv : valT m ≠ 0 := by
    intro h0
    rw [h0, dec_zero] at e
    rw [← e] at hh2
    exact hh2 rfl
   rw [decN_big (by omega), hdg, show (10 * valT m + (c.toNat - 48)) / 10 = valT m by omega, e]
theorem dec_val {l : List UInt8} (h : txB l = true) : decN (valT l) = l := by
 unfold txB at h
 rw [Bool.and_eq_true, Bool.or_eq_true] at h
 obtain ⟨h1, h2⟩ := h
 rcases h2 with h2 | h2
 ·have e : l = [48] := by simpa using h2
  subst e
  exact dec_zero
 ·rw [Bool.and_eq_true] at h2
  have a : l ≠ [] := by simpa using h2.1
  have b : l.head? ≠ some 48 := by simpa [bne_iff_ne] using h2.2
  exact dec_val_aux _ l rfl a h1 b
theorem dec_len_pos (n : Nat) : 1 ≤ (decN n).length := by
 have := decN_ne n
 cases h : decN n with
 | nil => exact absurd h this
 | cons a b => simp
theorem dec_len_ge (n : Nat) (h0 : n ≠ 0) : 10 ^ ((decN n).length - 1) ≤ n := by
 induction n using Nat.strongRecOn with
 | _ n ih =>
  by_cases h : n < 10
  ·rw [decN_small h]; simp; omega
  ·rw [decN_big h, List.length_append]
   have h1 := ih (n / 10) (by omega) (by omega)
   have h2 := dec_len_pos (n / 10)
   show 10 ^ ((decN (n / 10)).length + 1 - 1) ≤ n
   rw [Nat.add_sub_cancel]
   obtain ⟨k, hk⟩ : ∃ k, (decN (n / 10)).length = k + 1 := ⟨(decN (n / 10)).length - 1, by omega⟩
   rw [hk] at h1 ⊢
   rw [Nat.add_sub_cancel] at h1
   rw [Nat.pow_succ]; omega
theorem dec_len_39 (n : Nat) (h : n < 10 ^ 39) : (decN n).length ≤ 39 := by
 by_cases h0 : n = 0
 ·subst h0; rw [dec_zero]; decide
 ·have := dec_len_ge n h0
  have h2 : 10 ^ ((decN n).length - 1) < 10 ^ 39 := by omega
  have h3 := (Nat.pow_lt_pow_iff_right (by decide : 1 < 10)).1 h2
  omega
def digs (l : List UInt8) : Prop := ∀ c ∈ l, 48 ≤ c.toNat ∧ c.toNat ≤ 57
theorem dec_digs (n : Nat) : digs (decN n) := by
 intro c hc
 have := List.all_eq_true.1 (dec_allN n) c hc
 simpa [dgB] using this
theorem lt39 {n : Nat} (hn : (n : Int) < MM) : n < 10 ^ 39 := by
 have h : (MM : Int) = 340282366920938463463374607431768211456 := rfl
 have h2 : (10 : Nat) ^ 39 = 1000000000000000000000000000000000000000 := by rfl
 omega
end Go.Proofs.YtboinifeemghaaaGreatDoor
namespace Go.Proofs.YtboinifeemghaaaGreatDoor
open Go.RowKit
theorem bs_size (l : List UInt8) : (⟨l.toArray⟩ : ByteArray).size = l.length := by simp [ByteArray.size]
def memB (c : UInt8) : Bool := (decide (97 ≤ c.toNat) && decide (c.toNat ≤ 122)) || (decide (48 ≤ c.toNat) && decide (c.toNat ≤ 57)) || decide (c.toNat = 95)
def labB (l : List UInt8) : Bool := l.all memB && decide (l ≠ []) && decide (l.length ≤ 16)
theorem member_t (c : UInt8) (w : World) : Calls Tryz.prog 140 #[.int .u8 c.toNat] w fun e w' => e = .returned (.bool (memB c)) ∧ w = w' := by
 unfold memB
 have hc : c.toNat < 256 := c.toNat_lt
 generalize c.toNat = n at *
 go_enter Tryz.func140, Tryz.ntmps140
 by_cases h1 : 97 ≤ n
 ·by_cases h2 : n ≤ 122
  ·have h1' : (97 : Int) ≤ n := by omega
   have h2' : (n : Int) ≤ 122 := by omega
   go_wp2
   go_ret
   exact ⟨by simp [h1, h2], rfl⟩
  ·have h1' : (97 : Int) ≤ n := by omega
   have h2' : ¬ (n : Int) ≤ 122 := by omega
   have h3' : (48 : Int) ≤ n := by omega
   have h4' : ¬ (n : Int) ≤ 57 := by omega
   have h5' : ((n : Int) == 95) = false := by simp; omega
   have h5 : ¬ (n : Int) = 95 := by omega
   go_wp2
   go_ret
   exact ⟨by simp <;> omega, rfl⟩
 ·have h1' : ¬ (97 : Int) ≤ n := by omega
  by_cases h3 : 48 ≤ n
  ·have h3' : (48 : Int) ≤ n := by omega
   by_cases h4 : n ≤ 57
   ·have h4' : (n : Int) ≤ 57 := by omega
    go_wp2
    go_ret
    exact ⟨by simp [h3, h4], rfl⟩
   ·have h4' : ¬ (n : Int) ≤ 57 := by omega
    by_cases h5 : n = 95
    ·subst h5
     go_wp2
     go_ret
     exact ⟨rfl, rfl⟩
    ·have h5' : ((n : Int) == 95) = false := by simp; omega
     have h5'' : ¬ (n : Int) = 95 := by omega
     go_wp2
     go_ret
     exact ⟨by simp <;> omega, rfl⟩
  ·have h3' : ¬ (48 : Int) ≤ n := by omega
   have h5' : ((n : Int) == 95) = false := by simp; omega
   have h5 : ¬ (n : Int) = 95 := by omega
   go_wp2
   go_ret
   exact ⟨by simp <;> omega, rfl⟩
theorem labB_bad {l : List UInt8} {j : Nat} (hj : j < l.length) (h : j = 16 ∨ memB l[j] = false) : labB l = false := by
 unfold labB
 rcases h with rfl | h
 ·have : ¬ l.length ≤ 16 := by omega
  simp [this]
 ·have : l.all memB = false := by rw [List.all_eq_false]; exact ⟨l[j], List.getElem_mem hj, by simp [h]⟩
  simp [this]
theorem labB_ok {l : List UInt8} (h : ∀ i (hi : i < l.length), memB l[i] = true) (hl : l.length ≤ 16) : labB l = decide (l ≠ []) := by
 unfold labB
 have : l.all memB = true := by rw [List.all_eq_true]; intro x hx; obtain ⟨i, hi, rfl⟩ := List.getElem_of_mem hx; exact h i hi
 simp [this, hl]
theorem ne_empty (l : List UInt8) : (⟨l.toArray⟩ : ByteArray) = ⟨#[]⟩ ↔ l = [] := by
 constructor
 ·intro h
  have := congrArg (fun b : ByteArray => b.data.toList) h
  simpa using this
 ·rintro rfl; rfl
theorem isLabel_t (l : List UInt8) (hl : l.length ≤ 140737488355328) (w : World) : Calls Tryz.prog 115 #[.string ⟨l.toArray⟩] w fun e w' => e = .returned (.bool (labB l)) ∧ w = w' := by
 have hsz := bs_size l
 go_enter Tryz.func115, Tryz.ntmps115
 go_wp2_with fail
 go_loopw [6] (fun i wr => ∃ (j : Nat), j ≤ l.length ∧ i = .int .i64 j ∧ j ≤ 16 ∧ Hid (∀ i (hi : i < j) (hl : i < l.length), memB l[i] = true) ∧ wr = w) (fun i _ => l.length - (intOf i).toNat)
 case atStart => exact ⟨0, by omega, rfl, by omega, Lib.hid (fun i hi => by omega), rfl⟩
 case round =>
  obtain ⟨j, hj, rfl, h16, hm, rfl⟩ := hrel
  by_cases hlt : j < l.length
  ·obtain ⟨c, hlj⟩ : ∃ c, l[j] = c := ⟨_, rfl⟩
   have hsp : j < (⟨l.toArray⟩ : ByteArray).size := by rw [hsz]; exact hlt
   have hch : (⟨l.toArray⟩ : ByteArray)[j]'hsp = c := hlj
   have HJ := Lib.hid hlj
   clear hlj
   by_cases h : j = 16
   ·have HB := Lib.hid (labB_bad hlt (.inl h))
    subst h
    go_wp2
    go_ret
    exact ⟨by rw [HB.out]; rfl, rfl⟩
   ·have e16 : ((j : Int) == 16) = false := by simp; omega
    have e16' : ¬ (j : Int) = 16 := by omega
    cases hmb : memB c with
    | false =>
     have HB := Lib.hid (labB_bad hlt (.inr (by rw [HJ.out]; exact hmb)))
     go_wp2_with fail
     refine (member_t c wr).mono ?_
     rintro e w1 ⟨rfl, rfl⟩
     rw [hmb]
     clear hmb
     go_wp2
     go_ret
     exact ⟨by rw [HB.out]; rfl, rfl⟩
    | true =>
     have HM := Lib.hid (show ∀ i (hi : i < j + 1) (hl : i < l.length), memB l[i] = true from fun i hi hl => by
      by_cases e : i = j
      ·subst e; rw [HJ.out]; exact hmb
      ·exact hm.out i (by omega) hl)
     go_wp2_with fail
     refine (member_t c wr).mono ?_
     rintro e w1 ⟨rfl, rfl⟩
     rw [hmb]
     clear hmb hm
     go_wp2
     exact ⟨⟨j + 1, by omega, by go_num, by omega, HM, trivial⟩, by simp [intOf]; omega⟩
  ·have hjl : j = l.length := by omega
   have HB := Lib.hid (labB_ok (l := l) (fun i hi => hm.out i (by omega) hi) (by omega))
   clear hm
   by_cases h0 : l = []
   ·subst h0
    go_wp2
    go_ret
    exact ⟨by rw [HB.out]; rfl, rfl⟩
   ·have hne : ¬ (⟨l.toArray⟩ : ByteArray) = ⟨#[]⟩ := fun h => h0 ((ne_empty l).1 h)
    subst hjl
    go_wp2
    go_ret
    exact ⟨by rw [HB.out]; simp [hne, h0], rfl⟩
def SeqN (F : Fence) (n : Nat) (P : Program) (g : Nat) (lb : Array Value) (f : Nat → Array Value) (Kp : World → World → Prop) (N : Nat) (w : World) : Prop :=
 ∀ (l : Nat) (J Jx : Nat → World → Prop) (W : World), Below w.heap.size w W → AbidesFrom W.heap.size J → AbidesFrom W.heap.size Jx →
  (∀ k V, k < N → J k V → YieldAt F (n - 1) P l (f k) V fun e V' => (e = .returned (.bool true) ∧ J (k + 1) V' ∧ Kp V V') ∨ (e = .returned (.bool false) ∧ Jx (k + 1) V')) →
  J 0 W → CallsIn F n P g (#[.func (.yield l) #[] #[]] ++ lb) W fun e W' => (∃ v, e = .returned v) ∧ (J N W' ∨ ∃ k, k ≤ N ∧ Jx k W')
def roundQ (B : Nat) (Kp : World → World → Prop) (I : Nat → World → Prop) (Ix : Code → Nat → World → Prop) (k : Nat) (W : World) : Exit → Act → World → Prop
 | .normal, _, W' => KeepsFrom B W W' ∧ Kp W W' ∧ I (k + 1) W'
 | .ret, _, W' => KeepsFrom B W W' ∧ Ix .ret (k + 1) W'
 | .exit id, _, W' => KeepsFrom B W W' ∧ Ix (.exit id) (k + 1) W'
 | .goto t, _, W' => KeepsFrom B W W' ∧ Ix (.goto t) (k + 1) W'
 | .panic _, _, _ => False
 | .outgrown, _, _ => False
theorem wpIn_rangeN {F : Fence} {n : Nat} {P : Program} {g : Operand} {ps : Array Tmp} {assign body : Code} {Q : Exit → Act → World → Prop} {a : Act} {w : World}
  (hro : F.round = none) (h1 : 1 ≤ n) {gf : Nat} {lb : Array Value} (hg : a.eval g = .func (.func gf) #[] lb) (hFg : F.fn gf) (eg : ∀ args w, (callFunc gf args).run P w = .ok (.enter gf args) w)
  {f : Nat → Array Value} {Kp : World → World → Prop} {N : Nat} {w0 : World} (hseq : SeqN F (n - 1) P gf lb f Kp N w0)
  (hKt : ∀ {A B C : World}, Kp A B → Kp B C → Kp A C) (hKb : ∀ (W : World) (l : Nat) (o o' : Obj), w.heap.size ≤ l → W.heap[l]? = some o → o.isCells = false → o.isWalk = false → Kp W (W.putObj l o')) (hb0 : Below w0.heap.size w0 w) (hps : ∀ k, (f k).size = ps.size)
  (I : Nat → World → Prop) (Ix : Code → Nat → World → Prop) (hI : OwnFrom w.heap.size I) (hIx : ∀ c, OwnFrom w.heap.size (Ix c)) (h0 : I 0 w) (a1 : Nat → Act)
  (hassign : ∀ (l k : Nat) (W : World) (K : Act → World → Prop), K (a1 k) W →
   assign.wpIn (F.inRound l) (n - 1 - 1) P (Exit.then K (fun _ _ _ => False)) { tmps := (ps.zip (f k)).foldl (fun t (p, v) => t.setIfInBounds p v) a.tmps, defers := [] } W)
  (hbody : ∀ (l k : Nat) (W : World), k < N → I k W → body.wpIn (F.inRound l) (n - 1 - 1) P (roundQ w.heap.size Kp I Ix k W) (a1 k) W)
  (hdone : ∀ (D : Nat) (W : World), w.heap.size ≤ D → I N W → W.heap[D]? = some (.deferred (some [])) → Q .normal { a with defers := { target := .collected D, args := #[] } :: a.defers } W)
  (hstop : ∀ (D : Nat) (c : Code) (k : Nat) (W : World), w.heap.size ≤ D → k ≤ N → Ix c k W → W.heap[D]? = some (.deferred (some [])) → c.wpIn F n P Q { a with defers := { target := .collected D, args := #[] } :: a.defers } W) :
  (Code.rangeFunc g ps assign body).wpIn F n P Q a w := by
 refine wpIn_rangeFunc fun fn hfn => ?_
 rw [hro]
 -- the loop's record, the block for deferred calls below it
 obtain ⟨rec, hrec⟩ : ∃ rec : LoopState → Option Code → Loop, rec = fun st pe => { state := st, pending := pe, fn, tmps := a.tmps, params := ps, assign, body, defers := w.heap.size } := ⟨_, rfl⟩
 obtain ⟨V, hV⟩ : ∃ V, (w.alloc (.deferred (some []))).alloc (.loop (rec .ready none)) = V := ⟨_, rfl⟩
 have rec1 : V.heap[w.heap.size + 1]? = some (.loop (rec .ready none)) := by
  rw [← hV]; have := World.alloc_heap_new (w.alloc (.deferred (some []))) (.loop (rec .ready none)); rwa [World.size_alloc] at this
 have def1 : V.heap[w.heap.size]? = some (.deferred (some [])) := by
  rw [← hV]; exact (Below.heap_alloc _ _ _ (by simp)).trans (World.alloc_heap_new w _)
 have I1 : I 0 V := by rw [← hV]; exact hI.alloc _ (hI.alloc _ h0)
 have B1 : Below w0.heap.size w0 V := by
  rw [← hV]; exact hb0.trans ((((Below.refl _ w).alloc (Nat.le_refl _) _).alloc (by simp) _).mono hb0.size)
 have away : ∀ {A : World} {row : Option Nat}, (∀ r, row = some r → V.heap.size ≤ r ∧ ∃ o : Obj, A.heap[r]? = some o ∧ o.isWalk = true) → (∀ r, row = some r → w.heap.size ≤ r ∧ ∃ o : Obj, A.heap[r]? = some o ∧ o.isCells = false) :=
  fun hr r e => by obtain ⟨hB, o, ho, hw⟩ := hr r e; exact ⟨by rw [← hV] at hB; simp at hB; omega, o, ho, Obj.not_cells_of_walk hw⟩
 refine ⟨w.heap.size + 1, [{ target := .collected w.heap.size, args := #[] }], V, { target := .fn (.func gf) lb, args := #[.func (.yield (w.heap.size + 1)) #[] #[]] }, V, gf,
  #[.func (.yield (w.heap.size + 1)) #[] #[]] ++ lb, V, ?_, ?_, ?_, ?_, fun _ => h1, ?_⟩
 ·rw [← hV, hrec]; exact run_enterLoop_outer _ _ _ _ _
 ·simp only [resolve, hg]; simp [go_sem]
 ·intro f' hf'; simp [Target.leads] at hf'; subst hf'; exact hFg
 ·simp [invoke, go_sem, eg]
 refine (hseq (w.heap.size + 1)
  (fun k W => I k W ∧ W.heap[w.heap.size + 1]? = some (.loop (rec .ready none)) ∧ W.heap[w.heap.size]? = some (.deferred (some [])))
  (fun k W => ∃ c, Ix c k W ∧ W.heap[w.heap.size + 1]? = some (.loop (rec .done (some c))) ∧ W.heap[w.heap.size]? = some (.deferred (some [])))
  V B1
  (fun s A B row hs hg' hr => ⟨hI s A B row hs.1 hg' (away hr), (grownBy_keeps hg' (fun r e => (hr r e).2) hs.2.1 rfl).trans hs.2.1, (grownBy_keeps hg' (fun r e => (hr r e).2) hs.2.2 rfl).trans hs.2.2⟩)
  (fun s A B row hs hg' hr => hs.elim fun c hc => ⟨c, hIx c s A B row hc.1 hg' (away hr), (grownBy_keeps hg' (fun r e => (hr r e).2) hc.2.1 rfl).trans hc.2.1, (grownBy_keeps hg' (fun r e => (hr r e).2) hc.2.2 rfl).trans hc.2.2⟩)
  ?_ ⟨I1, rec1, def1⟩).mono ?_
 ·rintro k W hk ⟨hi, hl, hd⟩
  have hlt : w.heap.size + 1 < W.heap.size := (Array.getElem?_eq_some_iff.1 hl).1
  have hy := run_yield (P := P) (args := f k) hl (by rw [hrec]; exact hps k)
  rw [hrec] at hy
  refine ⟨fn, _, assign, body, hy, roundIn_of_wpIn hfn (hassign _ k W _ ⟨_, run_beginRound hl (by rw [hrec]), ?_⟩)⟩
  obtain ⟨U, hU⟩ : ∃ U, W.putObj (w.heap.size + 1) (.loop { rec .ready none with state := .busy }) = U := ⟨_, rfl⟩
  have l2 : U.heap[w.heap.size + 1]? = some (.loop { rec .ready none with state := .busy }) := by rw [← hU]; exact World.putObj_heap_same hlt
  have d2 : U.heap[w.heap.size]? = some (.deferred (some [])) := by rw [← hU]; exact (World.putObj_heap_other (by omega)).trans hd
  have k2 : Kp W U := by rw [← hU]; exact hKb _ _ _ _ (by omega) hl rfl rfl
  have i2 : I k U := by rw [← hU]; exact hI.putObj _ hi (by omega) hl rfl
  rw [hU]
  refine wpIn_mono (hbody _ k U hk i2) ?_
  have fin : ∀ (jump : Option Code) (X : World), KeepsFrom w.heap.size U X →
    (Instr.endRound (w.heap.size + 1) jump).run P X = .ok (.bool jump.isNone) (X.putObj (w.heap.size + 1) (.loop (rec (if jump.isNone then .ready else .done) jump))) ∧
    X.heap[w.heap.size + 1]? = some (.loop { rec .ready none with state := .busy }) ∧
    (X.putObj (w.heap.size + 1) (.loop (rec (if jump.isNone then .ready else .done) jump))).heap[w.heap.size + 1]? = some (.loop (rec (if jump.isNone then .ready else .done) jump)) ∧
    (X.putObj (w.heap.size + 1) (.loop (rec (if jump.isNone then .ready else .done) jump))).heap[w.heap.size]? = some (.deferred (some [])) := fun jump X hX => by
   have l3 := hX.same _ _ (by omega) l2 rfl
   have := run_endRound (P := P) jump l3
   rw [hrec] at this ⊢
   exact ⟨this, by rw [hrec] at l3; exact l3, World.putObj_heap_same (Array.getElem?_eq_some_iff.1 l3).1, (World.putObj_heap_other (by omega)).trans (hX.same _ _ (Nat.le_refl _) d2 rfl)⟩
  rintro e b X hp
  cases e with
  | normal =>
   obtain ⟨r, l3, l4, d4⟩ := fin none X hp.1
   exact ⟨_, _, r, .inl ⟨rfl, ⟨hI.putObj _ hp.2.2 (by omega) l3 rfl, l4, d4⟩, hKt (hKt k2 hp.2.1) (hKb _ _ _ _ (by omega) l3 rfl rfl)⟩⟩
  | ret =>
   obtain ⟨r, l3, l4, d4⟩ := fin (some .ret) X hp.1
   exact ⟨_, _, r, .inr ⟨rfl, .ret, (hIx _).putObj _ hp.2 (by omega) l3 rfl, l4, d4⟩⟩
  | exit id =>
   obtain ⟨r, l3, l4, d4⟩ := fin (some (.exit id)) X hp.1
   exact ⟨_, _, r, .inr ⟨rfl, .exit id, (hIx _).putObj _ hp.2 (by omega) l3 rfl, l4, d4⟩⟩
  | goto t =>
   obtain ⟨r, l3, l4, d4⟩ := fin (some (.goto t)) X hp.1
   exact ⟨_, _, r, .inr ⟨rfl, .goto t, (hIx _).putObj _ hp.2 (by omega) l3 rfl, l4, d4⟩⟩
  | panic ch => exact hp.elim
  | outgrown => exact hp.elim
 ·rintro e X ⟨⟨v, rfl⟩, (⟨hi, hl, hd⟩ | ⟨k, hk, c, hi, hl, hd⟩)⟩
  ·exact ⟨none, _, by have := run_endLoop (P := P) hl (by rw [hrec]; simp); rw [hrec] at this; exact this, hdone _ _ (Nat.le_refl _) (hI.putObj _ hi (by omega) hl rfl) ((World.putObj_heap_other (by omega)).trans hd)⟩
  ·exact ⟨some c, _, by have := run_endLoop (P := P) hl (by rw [hrec]; simp); rw [hrec] at this; exact this, hstop _ c k _ (Nat.le_refl _) hk ((hIx c).putObj _ hi (by omega) hl rfl) ((World.putObj_heap_other (by omega)).trans hd)⟩
theorem idx_at (c : UInt8) (r : List UInt8) : ∀ (p : List UInt8), c ∉ p → Lib.indexByte (p ++ c :: r) c = p.length
 | [], _ => by simp [Lib.indexByte]
 | x :: p, h => by
  have hx : ¬ x = c := fun e => h (by rw [e]; simp)
  have ih := idx_at c r p (fun hm => h (List.mem_cons_of_mem _ hm))
  rw [List.cons_append, Lib.indexByte, ih, if_neg (by simpa using hx), if_neg (by simp)]
  simp
theorem idx_no (c : UInt8) : ∀ (p : List UInt8), c ∉ p → Lib.indexByte p c = -1
 | [], _ => rfl
 | x :: p, h => by
  have hx : ¬ x = c := fun e => h (by rw [e]; simp)
  rw [Lib.indexByte, idx_no c p (fun hm => h (List.mem_cons_of_mem _ hm)), if_neg (by simpa using hx), if_pos (by simp)]
theorem ext_l (l : List UInt8) (a b : Nat) : (⟨l.toArray⟩ : ByteArray).extract a b = ⟨((l.take b).drop a).toArray⟩ := by
 apply ByteArray.ext
 simp [ByteArray.extract, ByteArray.copySlice]
 rw [List.drop_take]
theorem liteAt_t (p r : List UInt8) (c : UInt8) (hp : c ∉ p) (hl : (p ++ c :: r).length ≤ 140737488355328) (w : World) : Calls Tryz.prog 52 #[.string ⟨(p ++ c :: r).toArray⟩, .string ⟨#[c]⟩] w fun e w' => e = .returned (.tuple #[.string ⟨p.toArray⟩, .string ⟨r.toArray⟩, .bool true]) ∧ ∃ n, w' = w.drewN n := by
 have hi := idx_at c r p hp
 have hsz := bs_size (p ++ c :: r)
 have hlen : (p ++ c :: r).length = p.length + 1 + r.length := by simp; omega
 have x0 := ext_l (p ++ c :: r) 0 p.length
 have x1 := ext_l (p ++ c :: r) (p.length + 1) (p ++ c :: r).length
 rw [List.take_left, List.drop_zero] at x0
 rw [List.take_length, show (p ++ c :: r).drop (p.length + 1) = r by rw [List.drop_append, List.drop_eq_nil_of_le (by omega)]; simp] at x1
 have hx := Tryz.stringslite_Index_one ⟨(p ++ c :: r).toArray⟩ c w
 rw [show (⟨(p ++ c :: r).toArray⟩ : ByteArray).data.toList = p ++ c :: r by simp, hi] at hx
 generalize p ++ c :: r = l at *
 generalize p.length = k at *
 rw [← hsz] at hlen
 go_enter Tryz.func52, Tryz.ntmps52
 go_wp2_with fail
 refine hx.mono ?_
 rintro e w1 ⟨rfl, rfl⟩
 clear hx hi
 have h0 : (0 : Int) ≤ (k : Int) := by omega
 have z1 : (⟨#[c]⟩ : ByteArray).size = 1 := rfl
 have t1 : ((k : Int) + 1).toNat = k + 1 := by omega
 go_wp2_with fail
 go_region
 go_wp2
 exact bodyPost_ret (v := .tuple #[.string ⟨p.toArray⟩, .string ⟨r.toArray⟩, .bool true]) (by simp [results, Tryz.results52, go_sem]) rfl ⟨rfl, 1, rfl⟩
theorem liteNo_t (l : List UInt8) (c : UInt8) (hp : c ∉ l) (w : World) : Calls Tryz.prog 52 #[.string ⟨l.toArray⟩, .string ⟨#[c]⟩] w fun e w' => e = .returned (.tuple #[.string ⟨l.toArray⟩, .string ⟨#[]⟩, .bool false]) ∧ w' = w := by
 have hx := Tryz.stringslite_Index_one ⟨l.toArray⟩ c w
 rw [show (⟨l.toArray⟩ : ByteArray).data.toList = l by simp, idx_no c l hp] at hx
 go_enter Tryz.func52, Tryz.ntmps52
 go_wp2_with fail
 refine hx.mono ?_
 rintro e w1 ⟨rfl, rfl⟩
 clear hx
 go_wp2
 exact bodyPost_ret (v := .tuple #[.string ⟨l.toArray⟩, .string ⟨#[]⟩, .bool false]) (by simp [results, Tryz.results52, go_sem]) rfl ⟨rfl, rfl⟩
theorem cutAt_t (p r : List UInt8) (c : UInt8) (hp : c ∉ p) (hl : (p ++ c :: r).length ≤ 140737488355328) (w : World) : Calls Tryz.prog 21 #[.string ⟨(p ++ c :: r).toArray⟩, .string ⟨#[c]⟩] w fun e w' => e = .returned (.tuple #[.string ⟨p.toArray⟩, .string ⟨r.toArray⟩, .bool true]) ∧ ∃ n, w' = w.drewN n := by
 have hx := liteAt_t p r c hp hl w
 generalize p ++ c :: r = l at *
 go_enter Tryz.func21, Tryz.ntmps21
 go_wp2_with fail
 refine hx.mono ?_
 rintro e w1 ⟨rfl, n, rfl⟩
 clear hx
 go_wp2
 exact bodyPost_ret (v := .tuple #[.string ⟨p.toArray⟩, .string ⟨r.toArray⟩, .bool true]) (by simp [results, Tryz.results21, go_sem]) rfl ⟨rfl, n, rfl⟩
theorem cutNo_t (l : List UInt8) (c : UInt8) (hp : c ∉ l) (w : World) : Calls Tryz.prog 21 #[.string ⟨l.toArray⟩, .string ⟨#[c]⟩] w fun e w' => e = .returned (.tuple #[.string ⟨l.toArray⟩, .string ⟨#[]⟩, .bool false]) ∧ w' = w := by
 have hx := liteNo_t l c hp w
 go_enter Tryz.func21, Tryz.ntmps21
 go_wp2_with fail
 refine hx.mono ?_
 rintro e w1 ⟨rfl, rfl⟩
 clear hx
 go_wp2
 exact bodyPost_ret (v := .tuple #[.string ⟨l.toArray⟩, .string ⟨#[]⟩, .bool false]) (by simp [results, Tryz.results21, go_sem]) rfl ⟨rfl, rfl⟩
def splitD : List UInt8 → List (List UInt8)
 | [] => [[]]
 | c :: r => if c = 46 then [] :: splitD r else match splitD r with
  | h :: t => (c :: h) :: t
  | [] => [[c]]
def partsL (l : List UInt8) : List (List UInt8) := if l = [] then [] else splitD l
theorem splitD_no : ∀ (p : List UInt8), (46 : UInt8) ∉ p → splitD p = [p]
 | [], _ => rfl
 | c :: p, h => by
  have hc : ¬ c = 46 := fun e => h (by rw [e]; simp)
  rw [splitD, if_neg hc, splitD_no p (fun hm => h (List.mem_cons_of_mem _ hm))]
theorem splitD_at : ∀ (p r : List UInt8), (46 : UInt8) ∉ p → splitD (p ++ 46 :: r) = p :: splitD r
 | [], r, _ => by rw [List.nil_append, splitD, if_pos rfl]
 | c :: p, r, h => by
  have hc : ¬ c = 46 := fun e => h (by rw [e]; simp)
  rw [List.cons_append, splitD, if_neg hc, splitD_at p r (fun hm => h (List.mem_cons_of_mem _ hm))]
theorem splitD_ne (l : List UInt8) : splitD l ≠ [] := by
 cases l with
 | nil => simp [splitD]
 | cons c r =>
  rw [splitD]
  split
  ·simp
  ·split <;> simp
theorem splitD_cases (l : List UInt8) : (∃ p r, (46 : UInt8) ∉ p ∧ l = p ++ 46 :: r ∧ splitD l = p :: splitD r) ∨ ((46 : UInt8) ∉ l ∧ splitD l = [l]) := by
 by_cases h : (46 : UInt8) ∈ l
 ·obtain ⟨p, r, rfl, hp⟩ := List.eq_append_cons_of_mem h
  exact Or.inl ⟨p, r, hp, rfl, splitD_at p r hp⟩
 ·exact Or.inr ⟨h, splitD_no l h⟩
theorem splitD_len (l : List UInt8) : (splitD l).length ≤ l.length + 1 := by
 induction l with
 | nil => simp [splitD]
 | cons c r ih =>
  rw [splitD]
  split
  ·simp; omega
  ·cases hs : splitD r with
   | nil => simp
   | cons h t => rw [hs] at ih; simp at ih ⊢; omega
theorem partsL_len (l : List UInt8) : (partsL l).length ≤ l.length + 1 := by
 unfold partsL
 split
 ·simp
 ·exact splitD_len l
def partF (l : List UInt8) (k : Nat) : Array Value := #[.int .i64 k, .string ⟨((partsL l)[k]?.getD []).toArray⟩]
attribute [local go_sem] Oper.semAt_some
theorem abides_drewN {β : Type} {B : Nat} {J : β → World → Prop} (h : AbidesFrom B J) {s : β} {W : World} (hs : J s W) (n : Nat) : J s (W.drewN n) :=
 h s W (W.drewN n) none hs ⟨rfl, rfl, rfl, Nat.le_refl _, fun _ _ _ => rfl⟩ (fun r e => by cases e)
def mLen (s m : Value) : Nat := match m, s with
 | .bool true, .string b => b.size + 1
 | _, _ => 0
theorem parts1_in (l : List UInt8) (hl : l.length ≤ 140737488355328) (n g : Nat) (w : World) (hg : w.cell? ⟨g, 0, none⟩ = some (.string ⟨l.toArray⟩)) (hgw : g < w.heap.size) :
  SeqN Fence.wide n Tryz.prog 139 #[.pointer (some ⟨g, 0, none⟩)] (partF l) (fun _ _ => True) (partsL l).length w := by
 intro i J Jx W hb hJ hJx hY h0
 have hc := (hb.cell (p := ⟨g, 0, none⟩) hgw).trans hg
 clear hb
 refine callsIn_of_wp Tryz.func139 rfl trivial ?_ rfl
 simp only [Tryz.ntmps139, List.size_toArray, List.length_cons, List.length_nil, Nat.reduceAdd, Nat.reduceSub, Array.replicate_succ, Array.replicate_zero, List.push_toArray, List.append_toArray, List.nil_append, List.cons_append]
 gi_wp2
 gi_region
 have h1 : J 0 W.drew := abides_drewN hJ h0 1
 have hrel0 : if (!l.isEmpty) = true then (partsL l).drop 0 = splitD l else (partsL l).length = 0 := by
  unfold partsL
  by_cases h : l = []
  ·subst h; simp
  ·have : l.isEmpty = false := by cases l <;> simp_all
   rw [if_neg h, this]; simp
 have HJ := Lib.hid (And.intro hJ hJx)
 have HR0 := Lib.hid hrel0
 have hY' := Lib.hid hY
 clear hrel0 hJ hJx h0 hc hY
 generalize W.drew = W1 at *
 gi_wp2
 gi_loopw [3, 4, 5] (fun s m iv wr => ∃ (b : Bool) (rest : List UInt8) (k : Nat), s = .string ⟨rest.toArray⟩ ∧ m = .bool b ∧ iv = .int .i64 k ∧ rest.length ≤ 140737488355328 ∧ k ≤ l.length + 1 ∧ J k wr ∧ Hid (if b = true then (partsL l).drop k = splitD rest else (partsL l).length = k)) (fun s m _ _ => mLen s m)
 case atStart => exact ⟨_, l, 0, rfl, rfl, rfl, hl, by omega, h1, HR0⟩
 case round =>
  clear h1 HR0
  obtain ⟨b, rest, k, rfl, rfl, rfl, hrl, hk, hJk, hr⟩ := hrel
  cases b with
  | false =>
   have hN := hr.out
   rw [if_neg (by simp)] at hN
   gi_wp2
   go_end0
   exact ⟨⟨_, rfl⟩, .inl (by rw [hN]; exact hJk)⟩
  | true =>
   have hN := hr.out
   rw [if_pos rfl] at hN
   clear hr
   have hkN : k < (partsL l).length := by
    by_cases h : k < (partsL l).length
    ·exact h
    ·rw [List.drop_eq_nil_of_le (by omega)] at hN; exact absurd hN.symm (splitD_ne rest)
   have hNl := partsL_len l
   rcases splitD_cases rest with ⟨p, r, hp, hre, hsp⟩ | ⟨hp, hsp⟩
   ·rw [hsp] at hN
    have hcut := cutAt_t p r 46 hp (by rw [← hre]; exact hrl) wr
    rw [← hre] at hcut
    have hget : (partsL l)[k]? = some p := by
     have := congrArg (·[0]?) hN
     simpa using this
    have hnx : (partsL l).drop (k + 1) = splitD r := by
     rw [← List.drop_drop, hN]; rfl
    have hrlen : r.length ≤ 140737488355328 := by rw [hre] at hrl; simp at hrl; omega
    have HD := Lib.hid (show r.length + 1 < rest.length + 1 by rw [hre]; simp; omega)
    have HNX := Lib.hid hnx
    have HC := Lib.hid hcut
    clear hN hsp hp hre hcut hnx
    gi_wp2
    refine ⟨trivial, fun h => (by cases h), (callsIn_wide.2 HC.out).mono ?_⟩
    rintro e w1 ⟨rfl, m, rfl⟩
    have hJ1 := abides_drewN HJ.out.1 hJk m
    generalize wr.drewN m = W2 at *
    obtain ⟨fn, tmps, assign, body, hy, hR⟩ := hY'.out k W2 hkN hJ1
    have hpf : partF l k = #[.int .i64 k, .string ⟨p.toArray⟩] := by unfold partF; rw [hget]; rfl
    rw [hpf] at hy
    clear hJk hget hpf
    gi_wp2
    refine ⟨fun h => (by cases h), hR.mono ?_⟩
    rintro e W3 (⟨rfl, hJ3, _⟩ | ⟨rfl, hJx3⟩)
    ·gi_wp2
     exact ⟨⟨true, r, k + 1, rfl, rfl, by go_num, hrlen, by omega, hJ3, Lib.hid (by rw [if_pos rfl]; exact HNX.out)⟩, by have := HD.out; simpa [mLen, bs_size] using this⟩
    ·gi_wp2
     refine bodyPost_ret (results_none rfl _ _ _) rfl ?_
     exact ⟨⟨_, rfl⟩, .inr ⟨_, by omega, hJx3⟩⟩
   ·rw [hsp] at hN
    have hcut := cutNo_t rest 46 hp wr
    have hget : (partsL l)[k]? = some rest := by
     have := congrArg (·[0]?) hN
     simpa using this
    have hend : (partsL l).length = k + 1 := by
     have := congrArg List.length hN
     simp at this; omega
    have HEN := Lib.hid hend
    have HC := Lib.hid hcut
    clear hN hsp hp hcut hend
    gi_wp2
    refine ⟨trivial, fun h => (by cases h), (callsIn_wide.2 HC.out).mono ?_⟩
    rintro e w1 ⟨rfl, rfl⟩
    obtain ⟨fn, tmps, assign, body, hy, hR⟩ := hY'.out k w1 hkN hJk
    have hpf : partF l k = #[.int .i64 k, .string ⟨rest.toArray⟩] := by unfold partF; rw [hget]; rfl
    rw [hpf] at hy
    clear hJk hget hpf HC
    gi_wp2
    refine ⟨fun h => (by cases h), hR.mono ?_⟩
    rintro e W3 (⟨rfl, hJ3, _⟩ | ⟨rfl, hJx3⟩)
    ·gi_wp2
     exact ⟨⟨false, [], k + 1, rfl, rfl, by go_num, by simp, by omega, hJ3, Lib.hid (by rw [if_neg (by simp)]; exact HEN.out)⟩, by simp [mLen]⟩
    ·gi_wp2
     refine bodyPost_ret (results_none rfl _ _ _) rfl ?_
     exact ⟨⟨_, rfl⟩, .inr ⟨_, by omega, hJx3⟩⟩
theorem parts_t (b : ByteArray) (w : World) : Calls Tryz.prog 114 #[.string b] w fun e w' => e = .returned (.func (.func 139) #[] #[.pointer (some ⟨w.heap.size, 0, none⟩)]) ∧ w' = w.alloc (.cells #[.string b] 9) := by
 have hmf : ∀ (fn : Fn) (first cap : Array Value) (w : World), (Instr.makeFunc fn first cap).run Tryz.prog w = .ok (.func fn first cap) w := fun _ _ _ _ => rfl
 go_enter Tryz.func114, Tryz.ntmps114
 go_wp2
 go_ret
 exact ⟨rfl, rfl⟩
attribute [local go_sem] Oper.semAt_some
def rightB (l : List UInt8) : Bool := decide ((partsL l).length ≤ 8) && (partsL l).all labB
theorem rightB_bad {l : List UInt8} {k : Nat} (hk : k < (partsL l).length) (h : k = 8 ∨ labB ((partsL l)[k]?.getD []) = false) : rightB l = false := by
 unfold rightB
 rcases h with rfl | h
 ·have : ¬ (partsL l).length ≤ 8 := by omega
  simp [this]
 ·rw [List.getElem?_eq_getElem hk] at h
  have : (partsL l).all labB = false := by rw [List.all_eq_false]; exact ⟨_, List.getElem_mem hk, by simpa using h⟩
  simp [this]
theorem rightB_ok {l : List UInt8} (h : ∀ k, k < (partsL l).length → labB ((partsL l)[k]?.getD []) = true) (hl : (partsL l).length ≤ 8) : rightB l = true := by
 unfold rightB
 have : (partsL l).all labB = true := by
  rw [List.all_eq_true]; intro x hx; obtain ⟨i, hi, rfl⟩ := List.getElem_of_mem hx
  have := h i hi
  rwa [List.getElem?_eq_getElem hi] at this
 simp [this, hl]
theorem splitD_part : ∀ (l : List UInt8), ∀ p ∈ splitD l, p.length ≤ l.length
 | [], p, h => by simp [splitD] at h; simp [h]
 | c :: r, p, h => by
  rw [splitD] at h
  split at h
  ·rcases List.mem_cons.1 h with rfl | h
   ·simp
   ·have := splitD_part r p h; simp; omega
  ·cases hs : splitD r with
   | nil => rw [hs] at h; simp at h; subst h; simp
   | cons a t =>
    rw [hs] at h
    rcases List.mem_cons.1 h with rfl | h
    ·have := splitD_part r a (by rw [hs]; simp); simp; omega
    ·have := splitD_part r p (by rw [hs]; simp [h]); simp; omega
theorem part_len (l : List UInt8) (k : Nat) : ((partsL l)[k]?.getD []).length ≤ l.length := by
 cases hq : (partsL l)[k]? with
 | none => simp
 | some p =>
  have hm := List.mem_of_getElem? hq
  unfold partsL at hm
  split at hm
  ·cases hm
  ·exact splitD_part l p hm
theorem row_kept {W W' : World} {row : Option Nat} {g : Nat} {cs : Array Value} {t : TypeId} (h : Row W g cs t) (hg : W.grownBy W' row) (hrow : ∀ r, row = some r → ∃ o : Obj, W.heap[r]? = some o ∧ o.isCells = false) : Row W' g cs t :=
 (hg.block g h.lt (fun e => by obtain ⟨o, ho, hc⟩ := hrow g e.symm; unfold Row at h; rw [h] at ho; cases ho; cases hc)).trans h
theorem row_put {W : World} {g D : Nat} {cs : Array Value} {t : TypeId} (h : Row W g cs t) {o : Obj} (o' : Obj) (hD : W.heap[D]? = some o) (ho : o.isCells = false) : Row (W.putObj D o') g cs t :=
 row_kept h (grownBy_putObj' _ D o') (fun r e => by cases e; exact ⟨_, hD, ho⟩)
theorem right_t (l : List UInt8) (hl : l.length ≤ 140737488355328) (w : World) : Calls Tryz.prog 74 #[.string ⟨l.toArray⟩] w fun e w' => e = .returned (.bool (rightB l)) ∧ Below w.heap.size w w' := by
 refine (callsIn_wide (n := 3)).1 ?_
 refine callsIn_of_wp_marks Tryz.func74 rfl trivial ?_ rfl
 simp only [Tryz.ntmps74, List.size_toArray, List.length_cons, List.length_nil, Nat.reduceAdd, Nat.reduceSub, Array.replicate_succ, Array.replicate_zero, List.push_toArray, List.append_toArray, List.nil_append, List.cons_append]
 gi_wp2
 refine ⟨trivial, (callsIn_wide.2 (parts_t _ _)).mono ?_⟩
 rintro e w1 ⟨rfl, rfl⟩
 gi_wp2
 have R0 : Row ((w.alloc (.cells #[.bool false] 4)).alloc (.cells #[.string ⟨l.toArray⟩] 9)) w.heap.size #[.bool false] 4 := (Row.new w _ _).alloc _
 have R1 : Row ((w.alloc (.cells #[.bool false] 4)).alloc (.cells #[.string ⟨l.toArray⟩] 9)) (w.heap.size + 1) #[.string ⟨l.toArray⟩] 9 := by simpa using Row.new (w.alloc (.cells #[.bool false] 4)) #[.string ⟨l.toArray⟩] 9
 have hB0 : Below w.heap.size w ((w.alloc (.cells #[.bool false] 4)).alloc (.cells #[.string ⟨l.toArray⟩] 9)) := ((Below.refl _ w).alloc (Nat.le_refl _) _).alloc (by simp) _
 have hs0 : w.heap.size ≤ ((w.alloc (.cells #[.bool false] 4)).alloc (.cells #[.string ⟨l.toArray⟩] 9)).heap.size := hB0.size
 generalize (w.alloc (.cells #[.bool false] 4)).alloc (.cells #[.string ⟨l.toArray⟩] 9) = w0 at *
 refine wpIn_rangeN rfl (by omega) (gf := 139) (lb := #[.pointer (some ⟨w.heap.size + 1, 0, none⟩)]) rfl trivial (enters_of Tryz.func139 (by kernel_rfl) rfl)
  (parts1_in l hl _ (w.heap.size + 1) w0 ((R1.cell 0).trans rfl) R1.lt) (fun _ _ => trivial) (fun _ _ _ _ _ _ _ _ => trivial) (Below.refl _ _) (fun _ => rfl)
  (fun k W => ((∀ j, j < k → labB ((partsL l)[j]?.getD []) = true) ∧ k ≤ 8 ∧ Row W w.heap.size #[.bool false] 4) ∧ Below w.heap.size w W)
  (fun c _ W => (c = .ret ∧ rightB l = false ∧ Row W w.heap.size #[.bool false] 4) ∧ Below w.heap.size w W)
  (OwnFrom.and (Own.from (fun s A B row hs hg hr => ⟨hs.1, hs.2.1, row_kept hs.2.2 hg hr⟩) _) (ownFrom_below (Nat.le_refl _) hs0))
  (fun c => OwnFrom.and (Own.from (fun s A B row hs hg hr => ⟨hs.1, hs.2.1, row_kept hs.2.2 hg hr⟩) _) (ownFrom_below (Nat.le_refl _) hs0))
  ⟨⟨fun j hj => by omega, by omega, R0⟩, hB0⟩
  (fun k => { tmps := #[.string ⟨l.toArray⟩, undef, .pointer (some ⟨w.heap.size, 0, none⟩), .int .i64 k, .string ⟨((partsL l)[k]?.getD []).toArray⟩, .string ⟨l.toArray⟩, .func (.func 139) #[] #[.pointer (some ⟨w.heap.size + 1, 0, none⟩)], .int .i64 k, .string ⟨((partsL l)[k]?.getD []).toArray⟩, undef, undef, undef, undef, undef, undef, undef], defers := [] }) ?assign ?body ?done ?stop
 case assign =>
  intro i k W K hK
  unfold partF
  gi_wp2
  exact hK
 case body =>
  rintro i k W hkN ⟨⟨hp, h8, R⟩, hB⟩
  have hbad := rightB_bad hkN
  have hpl := part_len l k
  have hnx : labB ((partsL l)[k]?.getD []) = true → ∀ j, j < k + 1 → labB ((partsL l)[j]?.getD []) = true := fun h j hj => by
   by_cases e : j = k
   ·subst e; exact h
   ·exact hp j (by omega)
  have HN := Lib.hid hnx
  have hcr := (R.cell 0).trans (show _ = some (Value.bool false) from rfl)
  have hfr := R.frozen 0
  have HR := Lib.hid R
  have HB := Lib.hid hB
  clear hp hnx R hB R0 R1 hB0
  generalize (partsL l)[k]?.getD [] = p at *
  by_cases hk8 : k = 8
  ·have HBD := Lib.hid (hbad (.inl hk8))
   subst hk8
   clear hbad
   gi_wp2
   refine ⟨trivial, ?_⟩
   gi_wp2
   exact ⟨(KeepsOthers.setCell _ _ _).from _, ⟨rfl, HBD.out, HR.out.set 0 (.bool false)⟩, HB.out.setCell (Nat.le_refl _) _⟩
  ·have e8 : ((k : Int) == 8) = false := by simp; omega
   have e8' : ¬ (k : Int) = 8 := by omega
   gi_wp2
   refine ⟨trivial, (CallsIn.inRound i (callsIn_wide.2 (isLabel_t p (by omega) W))).mono ?_⟩
   rintro e w2 ⟨rfl, rfl⟩
   cases hlb : labB p with
   | true =>
    have HI := Lib.hid (HN.out hlb)
    clear HN hbad hlb
    gi_wp2
    exact ⟨KeepsFrom.refl _ _, trivial, ⟨HI.out, by omega, HR.out⟩, HB.out⟩
   | false =>
    have HBD := Lib.hid (hbad (.inr hlb))
    clear HN hbad hlb
    gi_wp2
    exact ⟨(KeepsOthers.setCell _ _ _).from _, ⟨rfl, HBD.out, HR.out.set 0 (.bool false)⟩, HB.out.setCell (Nat.le_refl _) _⟩
 case done =>
  rintro D W hD ⟨⟨hp, h8, R⟩, hB⟩ hK
  have HR := Lib.hid (rightB_ok hp h8)
  have hcr := (R.cell 0).trans (show _ = some (Value.bool false) from rfl)
  have hfr := R.frozen 0
  have HRR := Lib.hid R
  clear hp R R0 R1 hB0
  gi_wp2
  have hK' := (KeepsOthers.setCell W ⟨w.heap.size, 0, none⟩ (.bool true)).same D _ hK rfl
  refine ⟨by simp, .inl ⟨_, _, rfl, run_takeDeferred hK', ?_⟩⟩
  have hc5 := ((row_put (HRR.out.set 0 (.bool true)) (.deferred none) hK' rfl).cell 0).trans (show _ = some (Value.bool true) from rfl)
  refine ⟨.bool true, ?_, by rw [HR.out], (hB.setCell (p := ⟨w.heap.size, 0, none⟩) (Nat.le_refl _) _).trans (belowK_b (w := w) (Nat.le_refl _) _ D _ _ (by omega) hK' rfl rfl)⟩
  simp only [results, Tryz.results74]
  simp [go_sem, hc5]
 case stop =>
  rintro D c k W hD _ ⟨⟨rfl, hf, R⟩, hB⟩ hK
  gi_wp2
  refine ⟨by simp, .inl ⟨_, _, rfl, run_takeDeferred hK, ?_⟩⟩
  have hc5 := ((row_put R (.deferred none) hK rfl).cell 0).trans (show _ = some (Value.bool false) from rfl)
  refine ⟨.bool false, ?_, by rw [hf], hB.trans (belowK_b (w := w) (Nat.le_refl _) W D _ _ (by omega) hK rfl rfl)⟩
  simp only [results, Tryz.results74]
  simp [go_sem, hc5]
attribute [local go_sem] Oper.semAt_some
theorem splitD_count : ∀ (l : List UInt8), (splitD l).length = l.count 46 + 1
 | [] => rfl
 | c :: r => by
  have ih := splitD_count r
  rw [splitD]
  by_cases h : c = 46
  ·subst h; rw [if_pos rfl]; simp [ih]
  ·rw [if_neg h, List.count_cons_of_ne (by simpa using h)]
   cases hs : splitD r with
   | nil => exact absurd hs (splitD_ne r)
   | cons a t => rw [hs] at ih; simpa using ih
def labsL (l : List UInt8) : List (List UInt8) := if rightB l = true then partsL l else []
theorem labsL_len (l : List UInt8) : (labsL l).length ≤ 8 := by
 unfold labsL
 split
 ·rename_i h; unfold rightB at h; simp at h; exact h.1
 ·simp
theorem len_t (l : List UInt8) (hl : l.length ≤ 140737488355328) (w : World) : Calls Tryz.prog 116 #[.string ⟨l.toArray⟩] w fun e w' => e = .returned (.int .i64 ((labsL l).length : Nat)) ∧ Below w.heap.size w w' := by
 by_cases h0 : l = []
 ·subst h0
  go_enter Tryz.func116, Tryz.ntmps116
  go_wp2
  go_ret
  exact ⟨rfl, Below.refl _ _⟩
 ·have hne : ¬ (⟨l.toArray⟩ : ByteArray) = ⟨#[]⟩ := fun h => h0 ((ne_empty l).1 h)
  have hie : l.isEmpty = false := by cases l <;> simp_all
  cases hr : rightB l with
  | false =>
   have HL : labsL l = [] := by unfold labsL; rw [hr]; simp
   rw [HL]
   clear HL
   go_enter Tryz.func116, Tryz.ntmps116
   go_wp2_with fail
   refine (right_t l hl w).mono ?_
   rintro e w1 ⟨rfl, hb⟩
   rw [hr]
   go_wp2
   go_ret
   exact ⟨rfl, hb⟩
  | true =>
   have HL : labsL l = partsL l := by unfold labsL; rw [hr]; simp
   have HC : (partsL l).length = l.count 46 + 1 := by unfold partsL; rw [if_neg h0]; exact splitD_count l
   have hcnt : l.count 46 ≤ l.length := List.count_le_length
   have hx := Tryz.strings_Count_one ⟨l.toArray⟩ 46
   rw [show (⟨l.toArray⟩ : ByteArray).data.toList = l by simp] at hx
   unfold Lib.countByte at hx
   rw [HL, HC]
   clear HL HC
   generalize l.count 46 = n at *
   go_enter Tryz.func116, Tryz.ntmps116
   go_wp2_with fail
   refine (right_t l hl w).mono ?_
   rintro e w1 ⟨rfl, hb⟩
   rw [hr]
   go_wp2_with fail
   refine (hx w1).mono ?_
   rintro e w2 ⟨rfl, rfl⟩
   clear hx
   go_wp2
   go_ret
   exact ⟨rfl, hb⟩
def strsA (ls : List (List UInt8)) (k : Nat) : Array Value := ((List.range ls.length).map fun j => Value.string ⟨(if j < k then ls[j]?.getD [] else []).toArray⟩).toArray
theorem mk8 (n : Nat) (h : n ≤ 8) (w : World) : (Instr.makeSlice 77 (.int .i64 (n : Nat)) (.int .i64 (n : Nat))).run Tryz.prog w = .ok (.slice (some ⟨w.heap.size, 0, none⟩) n n) (w.alloc (.cells (Array.replicate n (.string ⟨#[]⟩)) 9)) := by
 rcases n with _ | _ | _ | _ | _ | _ | _ | _ | _ | n
 all_goals first | omega | kernel_rfl
def SS (w : World) (v : Value) (ls : List (List UInt8)) : Prop := ∃ p c, v = .slice p ls.length c ∧ ls.length ≤ c ∧ (0 < ls.length → ∃ g o, p = some ⟨g, o, none⟩ ∧ g < w.heap.size ∧ ∀ (j : Nat) x, ls[j]? = some x → w.cell? ⟨g, o + j, none⟩ = some (.string ⟨x.toArray⟩))
theorem SS.later {w w' : World} {v : Value} {ls : List (List UInt8)} (h : SS w v ls) (hb : Below w.heap.size w w') : SS w' v ls := by
 obtain ⟨p, c, rfl, h1, h2⟩ := h
 refine ⟨p, c, rfl, h1, fun h0 => ?_⟩
 obtain ⟨g, o, rfl, h3, h4⟩ := h2 h0
 exact ⟨g, o, rfl, Nat.lt_of_lt_of_le h3 hb.size, fun j x hx => cell_later hb (h4 j x hx)⟩
theorem SS.nil (w : World) : SS w (.slice none 0 0) [] := ⟨none, 0, rfl, Nat.le_refl _, fun h => by cases h⟩
def splE (l : List UInt8) : Int := if rightB l = true then 0 else 3
def SplitPost (l : List UInt8) (w : World) (e : Ending) (w' : World) : Prop := ∃ v, e = .returned (.tuple #[v, .int .i64 (splE l)]) ∧ SS w' v (labsL l) ∧ Below w.heap.size w w'
attribute [local go_sem] Oper.semAt_some
def jn (ps : List (List UInt8)) : List UInt8 := Lib.join ps [46]
theorem jn_one (p : List UInt8) : jn [p] = p := Lib.join_one p [46]
theorem jn_cons (p : List UInt8) (ps : List (List UInt8)) (h : ps ≠ []) : jn (p :: ps) = p ++ 46 :: jn ps := by
 cases ps with
 | nil => exact absurd rfl h
 | cons q r => unfold jn Lib.join; rw [List.intercalate_cons_cons]; simp
theorem jn_app : ∀ (a b : List (List UInt8)), a ≠ [] → b ≠ [] → jn (a ++ b) = jn a ++ 46 :: jn b
 | [], _, h, _ => absurd rfl h
 | [p], b, _, hb => by rw [List.singleton_append, jn_cons p b hb, jn_one]
 | p :: q :: r, b, _, hb => by
  rw [List.cons_append, jn_cons p ((q :: r) ++ b) (by simp), jn_app (q :: r) b (by simp) hb, jn_cons p (q :: r) (by simp)]
  simp
theorem jn_split : ∀ (l : List UInt8), jn (splitD l) = l
 | [] => by rw [splitD]; exact jn_one []
 | c :: r => by
  have ih := jn_split r
  rw [splitD]
  by_cases h : c = 46
  ·rw [if_pos h, jn_cons [] _ (splitD_ne r), ih, h]; rfl
  ·rw [if_neg h]
   cases hs : splitD r with
   | nil => exact absurd hs (splitD_ne r)
   | cons a t =>
    rw [hs] at ih
    cases t with
    | nil => rw [jn_one] at ih ⊢; simp [ih]
    | cons b t => rw [jn_cons _ _ (by simp)] at ih ⊢; simp [ih]
theorem jn_parts (l : List UInt8) : jn (partsL l) = l := by
 unfold partsL
 split
 ·rename_i h; subst h; rfl
 ·exact jn_split l
def endN (ps : List (List UInt8)) (k : Nat) : Nat := ((ps.take k).map fun p => p.length + 1).sum
theorem endN_succ (ps : List (List UInt8)) (k : Nat) (h : k < ps.length) : endN ps (k + 1) = endN ps k + ((ps[k]?.getD []).length + 1) := by
 unfold endN
 rw [List.take_add_one, List.getElem?_eq_getElem h, List.map_append, List.sum_append]
 simp only [Option.toList_some, List.map_cons, List.map_nil, List.sum_cons, List.sum_nil, Option.getD_some]
 omega
theorem jn_len : ∀ (a : List (List UInt8)), a ≠ [] → (jn a).length + 1 = (a.map fun p => p.length + 1).sum
 | [], h => absurd rfl h
 | [p], _ => by rw [jn_one]; simp
 | p :: q :: r, _ => by
  have ih := jn_len (q :: r) (by simp)
  rw [jn_cons p (q :: r) (by simp), List.map_cons, List.sum_cons, ← ih]
  simp; omega
theorem endN_len (ps : List (List UInt8)) (k : Nat) (h1 : 1 ≤ k) (h2 : ps ≠ []) : (jn (ps.take k)).length + 1 = endN ps k := jn_len _ (by cases ps <;> cases k <;> simp_all)
theorem endN_take (ps : List (List UInt8)) (k : Nat) (h1 : 1 ≤ k) (h2 : k < ps.length) : (jn ps).take (jn (ps.take k)).length = jn (ps.take k) := by
 have ha : ps.take k ≠ [] := by cases ps <;> cases k <;> simp_all
 have hb : ps.drop k ≠ [] := by simp; omega
 have := jn_app (ps.take k) (ps.drop k) ha hb
 rw [List.take_append_drop] at this
 rw [this, List.take_left]
theorem jn_take_len (ps : List (List UInt8)) (k : Nat) (h1 : 1 ≤ k) (h2 : k < ps.length) : (jn (ps.take k)).length ≤ (jn ps).length := by
 rw [← endN_take ps k h1 h2, List.length_take]; omega
theorem endN_le (ps : List (List UInt8)) (k : Nat) (h : k ≤ ps.length) : endN ps k ≤ (jn ps).length + 1 := by
 rcases Nat.eq_zero_or_pos k with rfl | hk
 ·simp [endN]
 ·have h2 : ps ≠ [] := by intro e; subst e; simp at h; omega
  rw [← endN_len ps k hk h2]
  rcases Nat.lt_or_ge k ps.length with hlt | hge
  ·have := jn_take_len ps k hk hlt; omega
  ·rw [List.take_of_length_le hge]; exact Nat.le_refl _
def topL (l : List UInt8) (n : Int) : List UInt8 := jn ((labsL l).take n.toNat)
theorem top_t (l : List UInt8) (hl : l.length ≤ 140737488355328) (n : Int) (w : World) : Calls Tryz.prog 111 #[.string ⟨l.toArray⟩, .int .i64 n] w fun e w' => e = .returned (.string ⟨(topL l n).toArray⟩) ∧ Below w.heap.size w w' := by
 refine (callsIn_wide (n := 3)).1 ?_
 refine callsIn_of_wp_marks Tryz.func111 rfl trivial ?_ rfl
 simp only [Tryz.ntmps111, List.size_toArray, List.length_cons, List.length_nil, Nat.reduceAdd, Nat.reduceSub, Array.replicate_succ, Array.replicate_zero, List.push_toArray, List.append_toArray, List.nil_append, List.cons_append]
 by_cases hn : n < 1
 ·have HT : topL l n = [] := by unfold topL; rw [show n.toNat = 0 by omega]; rfl
  rw [HT]
  clear HT
  gi_wp2
  refine ⟨trivial, ?_⟩
  gi_wp2
  exact ⟨.string ⟨#[]⟩, by simp only [results, Tryz.results111]; simp [go_sem], rfl, (by repeat (first | exact Below.refl _ _ | assumption | (with_reducible refine Below.drew ?_) | ((with_reducible first | refine Below.setCell ?_ ?h _ | refine Below.alloc ?_ ?h _ | refine Below.trans ?_ (hb4.mono ?h) | refine Below.trans ?_ (hb0.mono ?h)); case h => first | omega | (simp; done) | (simp; omega))))⟩
 ·have hn1 : ¬ n < 1 := hn
  have P0 : Row (((w.alloc (.cells #[.string ⟨l.toArray⟩] 9)).alloc (.cells #[.int .i64 n] 3)).alloc (.cells #[.string ⟨#[]⟩] 9)) w.heap.size #[.string ⟨l.toArray⟩] 9 := ((Row.new w _ _).alloc _).alloc _
  have P1 : Row (((w.alloc (.cells #[.string ⟨l.toArray⟩] 9)).alloc (.cells #[.int .i64 n] 3)).alloc (.cells #[.string ⟨#[]⟩] 9)) (w.heap.size + 1) #[.int .i64 n] 3 := by
   have h := (Row.new (w.alloc (.cells #[.string ⟨l.toArray⟩] 9)) #[.int .i64 n] 3).alloc (.cells #[.string ⟨#[]⟩] 9)
   rwa [World.size_alloc] at h
  have P2 : Row (((w.alloc (.cells #[.string ⟨l.toArray⟩] 9)).alloc (.cells #[.int .i64 n] 3)).alloc (.cells #[.string ⟨#[]⟩] 9)) (w.heap.size + 1 + 1) #[.string ⟨#[]⟩] 9 := by
   have h := Row.new ((w.alloc (.cells #[.string ⟨l.toArray⟩] 9)).alloc (.cells #[.int .i64 n] 3)) #[.string ⟨#[]⟩] 9
   rwa [World.size_alloc, World.size_alloc] at h
  have hb0 : Below w.heap.size w (((w.alloc (.cells #[.string ⟨l.toArray⟩] 9)).alloc (.cells #[.int .i64 n] 3)).alloc (.cells #[.string ⟨#[]⟩] 9)) := (by repeat (first | exact Below.refl _ _ | assumption | (with_reducible refine Below.drew ?_) | ((with_reducible first | refine Below.setCell ?_ ?h _ | refine Below.alloc ?_ ?h _ | refine Below.trans ?_ (hb4.mono ?h) | refine Below.trans ?_ (hb0.mono ?h)); case h => first | omega | (simp; done) | (simp; omega))))
  gi_wp2
  generalize ((w.alloc (.cells #[.string ⟨l.toArray⟩] 9)).alloc (.cells #[.int .i64 n] 3)).alloc (.cells #[.string ⟨#[]⟩] 9) = w0 at *
  refine ⟨trivial, (callsIn_wide.2 (right_t l hl w0)).mono ?_⟩
  rintro e w1 ⟨rfl, hb1⟩
  replace P0 := P0.later hb1
  replace P1 := P1.later hb1
  replace P2 := P2.later hb1
  have hbw := below_step hb0 hb1
  clear hb0 hb1
  have c0 := (P0.cell 0).trans (show _ = some (Value.string ⟨l.toArray⟩) from rfl)
  have c1 := (P1.cell 0).trans (show _ = some (Value.int .i64 n) from rfl)
  have c2 := (P2.cell 0).trans (show _ = some (Value.string ⟨#[]⟩) from rfl)
  have f2 := P2.frozen 0
  cases hr : rightB l with
  | false =>
   have HT : topL l n = [] := by unfold topL labsL; rw [hr]; simp; rfl
   have HTT := Lib.hid HT
   have HP2 := Lib.hid P2
   clear HT hr P0 P1 P2
   gi_wp2
   refine ⟨.string ⟨#[]⟩, ?_, by rw [HTT.out], hbw.setCell (by dsimp only; omega) _⟩
   have hc5 := ((HP2.out.set 0 (.string ⟨#[]⟩)).cell 0).trans (show _ = some (Value.string ⟨#[]⟩) from rfl)
   simp only [results, Tryz.results111]
   simp [go_sem, hc5]
  | true =>
   have HL : labsL l = partsL l := by unfold labsL; rw [hr]; simp
   have HTT := Lib.hid (show topL l n = jn ((partsL l).take n.toNat) by unfold topL; rw [HL])
   have hjp := jn_parts l
   have Q0 := (P0.alloc (.cells #[.int .i64 0] 3)).alloc (.cells #[.string ⟨l.toArray⟩] 9)
   have Q1 := (P1.alloc (.cells #[.int .i64 0] 3)).alloc (.cells #[.string ⟨l.toArray⟩] 9)
   have Q2 := (P2.alloc (.cells #[.int .i64 0] 3)).alloc (.cells #[.string ⟨l.toArray⟩] 9)
   have Q3 := (Row.new w1 #[.int .i64 0] 3).alloc (.cells #[.string ⟨l.toArray⟩] 9)
   have Q4 := Row.new (w1.alloc (.cells #[.int .i64 0] 3)) #[.string ⟨l.toArray⟩] 9
   rw [World.size_alloc] at Q4
   have hb4 : Below w.heap.size w ((w1.alloc (.cells #[.int .i64 0] 3)).alloc (.cells #[.string ⟨l.toArray⟩] 9)) := (hbw.alloc hbw.size _).alloc (by have := hbw.size; simp; omega) _
   have d0 := ((P0.alloc (.cells #[.int .i64 0] 3)).cell 0).trans (show _ = some (Value.string ⟨l.toArray⟩) from rfl)
   have l2 := P2.lt
   have HH := Lib.hid (And.intro Q0 (And.intro Q1 (And.intro Q2 (And.intro Q3 (And.intro Q4 hb4)))))
   have hle := Lib.hid (endN_le (partsL l))
   have hes := Lib.hid (endN_succ (partsL l))
   have hel := Lib.hid (endN_len (partsL l))
   have het := Lib.hid (endN_take (partsL l))
   have hbl := Lib.hid (jn_take_len (partsL l))
   have hpf : ∀ k, partF l k = #[.int .i64 k, .string ⟨((partsL l)[k]?.getD []).toArray⟩] := fun _ => rfl
   have hpl := Lib.hid (part_len l)
   have hit := Lib.hid (parts1_in l hl)
   clear HL hr P0 P1 P2 c0 c1 c2 f2 Q0 Q1 Q2 Q3 Q4 hb4
   gi_wp2
   refine ⟨trivial, (callsIn_wide.2 (parts_t _ _)).mono ?_⟩
   rintro e w3 ⟨rfl, rfl⟩
   clear d0
   gi_wp2
   obtain ⟨Q0, Q1, Q2, Q3, Q4, hb4⟩ := HH.out
   generalize (w1.alloc (.cells #[.int .i64 0] 3)).alloc (.cells #[.string ⟨l.toArray⟩] 9) = w4 at *
   generalize partsL l = ps at *
   have hs0 : w.heap.size ≤ w4.heap.size := hb4.size
   have hg2 : w.heap.size + 1 + 1 < w1.heap.size := l2
   clear HH l2 hbw
   generalize w1.heap.size = g at *
   refine wpIn_rangeN rfl (by omega) (gf := 139) (lb := #[.pointer (some ⟨g + 1, 0, none⟩)]) rfl trivial (enters_of Tryz.func139 (by kernel_rfl) rfl)
    (hit.out _ (g + 1) w4 ((Q4.cell 0).trans rfl) Q4.lt) (fun _ _ => trivial) (fun _ _ _ _ _ _ _ _ => trivial) (Below.refl _ _) (fun _ => rfl)
    (fun k W => ((k : Int) ≤ n ∧ Row W w.heap.size #[.string ⟨l.toArray⟩] 9 ∧ Row W (w.heap.size + 1) #[.int .i64 n] 3 ∧ Row W (w.heap.size + 1 + 1) #[.string ⟨#[]⟩] 9 ∧ Row W g #[.int .i64 (endN ps k : Nat)] 3) ∧ Below w.heap.size w W)
    (fun c _ W => (c = .ret ∧ Row W (w.heap.size + 1 + 1) #[.string ⟨(topL l n).toArray⟩] 9) ∧ Below w.heap.size w W)
    (OwnFrom.and (Own.from (fun s A B row hs hg hr => ⟨hs.1, row_kept hs.2.1 hg hr, row_kept hs.2.2.1 hg hr, row_kept hs.2.2.2.1 hg hr, row_kept hs.2.2.2.2 hg hr⟩) _) (ownFrom_below (Nat.le_refl _) hs0))
    (fun c => OwnFrom.and (Own.from (fun s A B row hs hg hr => ⟨hs.1, row_kept hs.2 hg hr⟩) _) (ownFrom_below (Nat.le_refl _) hs0))
    ⟨⟨by omega, Q0, Q1, Q2, Q3⟩, hb4⟩
    (fun k => { tmps := #[.string ⟨l.toArray⟩, .int .i64 n, .pointer (some ⟨w.heap.size, 0, none⟩), .pointer (some ⟨w.heap.size + 1, 0, none⟩), .pointer (some ⟨w.heap.size + 1 + 1, 0, none⟩), .pointer (some ⟨g, 0, none⟩), .int .i64 k, .string ⟨(ps[k]?.getD []).toArray⟩, .int .i64 n, .bool false, .bool false, .string ⟨l.toArray⟩, .bool true, .bool false, .bool false, .string ⟨l.toArray⟩, .func (.func 139) #[] #[.pointer (some ⟨g + 1, 0, none⟩)], .int .i64 k, .string ⟨(ps[k]?.getD []).toArray⟩, undef, undef, undef, undef, undef, undef, undef, undef, undef, undef, undef, undef, undef], defers := [] }) ?assign ?body ?done ?stop
   case assign =>
    intro i k W K hK
    rw [hpf]
    gi_wp2
    exact hK
   case body =>
    rintro i k W hkN ⟨⟨hkn, R0, R1, R2, R3⟩, hB⟩
    have c0 := (R0.cell 0).trans (show _ = some (Value.string ⟨l.toArray⟩) from rfl)
    have c1 := (R1.cell 0).trans (show _ = some (Value.int .i64 n) from rfl)
    have c2 := (R2.cell 0).trans (show _ = some (Value.string ⟨#[]⟩) from rfl)
    have c3 := (R3.cell 0).trans (show _ = some (Value.int .i64 (endN ps k : Nat)) from rfl)
    have f2 := R2.frozen 0
    have f3 := R3.frozen 0
    have HR := Lib.hid (And.intro R0 (And.intro R1 (And.intro R2 (And.intro R3 hB))))
    clear R0 R1 R2 R3 hB Q0 Q1 Q2 Q3 Q4 hb4 hit hpf
    by_cases hk : (k : Int) = n
    ·subst hk
     have hk1 : 1 ≤ k := by omega
     have hps : ps ≠ [] := by intro e; subst e; simp at hkN
     have e1 := hel.out k hk1 hps
     have e2 := het.out k hk1 hkN
     have e3 := hbl.out k hk1 hkN
     have hT := HTT.out
     rw [Int.toNat_natCast] at hT
     rw [hjp] at e2 e3
     rw [← e1] at c3
     have HF := Lib.hid hT
     clear e1 hT HTT hle hes hel het hbl hpl
     generalize jn (ps.take k) = q at *
     have hx : (⟨l.toArray⟩ : ByteArray).extract 0 q.length = ⟨q.toArray⟩ := by rw [ext_l, e2, List.drop_zero]
     have hsz := bs_size l
     generalize q.length = m at *
     clear e2
     gi_wp2
     refine ⟨(KeepsOthers.setCell _ _ _).from _, ⟨rfl, ?_⟩, HR.out.2.2.2.2.setCell (by dsimp only; omega) _⟩
     rw [HF.out]
     exact HR.out.2.2.1.set 0 (.string ⟨q.toArray⟩)
    ·have hk' : ((k : Int) == n) = false := by simp; exact hk
     have e1 := hes.out k hkN
     have e2 := hle.out (k + 1) hkN
     have e3 := hpl.out k
     rw [hjp] at e2
     generalize ps[k]?.getD [] = q at *
     have hE := Lib.hid e1
     have hsz := bs_size q
     have hb1 : endN ps k ≤ 140737488355329 := by omega
     clear hes hle hel het hbl hpl HTT e1
     generalize hEE : endN ps k = E at *
     have HEE := Lib.hid hEE
     clear hEE
     gi_wp2
     refine ⟨(KeepsOthers.setCell _ _ _).from _, trivial, ⟨by omega, HR.out.1.set_far _ _ (by dsimp only; omega), HR.out.2.1.set_far _ _ (by dsimp only; omega), HR.out.2.2.1.set_far _ _ (by dsimp only; omega), ?_⟩, HR.out.2.2.2.2.setCell (by dsimp only; omega) _⟩
     rw [hE.out]
     have := HR.out.2.2.2.1.set 0 (.int .i64 ((E : Int) + ((q.length : Int) + 1)))
     simpa using this
   case done =>
    rintro D W hD ⟨⟨hkn, R0, R1, R2, R3⟩, hB⟩ hK
    have c0 := (R0.cell 0).trans (show _ = some (Value.string ⟨l.toArray⟩) from rfl)
    have c2 := (R2.cell 0).trans (show _ = some (Value.string ⟨#[]⟩) from rfl)
    have f2 := R2.frozen 0
    have hT := HTT.out
    rw [List.take_of_length_le (by omega), hjp] at hT
    have HF := Lib.hid hT
    have HR := Lib.hid R2
    clear hT HTT hle hes hel het hbl hpl Q0 Q1 Q2 Q3 Q4 hb4 hit hpf R0 R1 R2 R3
    gi_wp2
    have hK' := (KeepsOthers.setCell W ⟨w.heap.size + 1 + 1, 0, none⟩ (.string ⟨l.toArray⟩)).same D _ hK rfl
    refine ⟨by simp, .inl ⟨_, _, rfl, run_takeDeferred hK', ?_⟩⟩
    have hc5 := ((row_put (HR.out.set 0 (.string ⟨l.toArray⟩)) (.deferred none) hK' rfl).cell 0).trans (show _ = some (Value.string ⟨l.toArray⟩) from rfl)
    refine ⟨.string ⟨l.toArray⟩, ?_, by rw [HF.out], (hB.setCell (p := ⟨w.heap.size + 1 + 1, 0, none⟩) (by dsimp only; omega) _).trans (belowK_b (w := w) (Nat.le_refl _) _ D _ _ (by omega) hK' rfl rfl)⟩
    simp only [results, Tryz.results111]
    simp [go_sem, hc5]
   case stop =>
    rintro D c k W hD _ ⟨⟨rfl, R2⟩, hB⟩ hK
    gi_wp2
    refine ⟨by simp, .inl ⟨_, _, rfl, run_takeDeferred hK, ?_⟩⟩
    have hc5 := ((row_put R2 (.deferred none) hK rfl).cell 0).trans (show _ = some (Value.string ⟨(topL l n).toArray⟩) from rfl)
    refine ⟨.string ⟨(topL l n).toArray⟩, ?_, rfl, hB.trans (belowK_b (w := w) (Nat.le_refl _) W D _ _ (by omega) hK rfl rfl)⟩
    simp only [results, Tryz.results111]
    simp [go_sem, hc5]
def sameN : List (List UInt8) → List (List UInt8) → Nat
 | x :: a, y :: b => if x = y then sameN a b + 1 else 0
 | _, _ => 0
theorem str_eq (x y : List UInt8) : (⟨x.toArray⟩ : ByteArray) = ⟨y.toArray⟩ ↔ x = y := by
 constructor
 ·intro h
  have := congrArg (fun b : ByteArray => b.data.toList) h
  simpa using this
 ·rintro rfl; rfl
def joinE (ls : List (List UInt8)) : Int := if ls.all labB = false then 3 else if 8 < ls.length then 2 else 0
def joinT (ls : List (List UInt8)) : List UInt8 := if joinE ls = 0 then jn ls else []
theorem labB_no46 {x : List UInt8} (h : labB x = true) : (46 : UInt8) ∉ x := by
 unfold labB at h
 simp at h
 intro hm
 have := h.1.1 46 hm
 exact absurd this (by decide)
theorem labB_ne {x : List UInt8} (h : labB x = true) : x ≠ [] := by unfold labB at h; simp at h; exact h.1.2
theorem split_jn : ∀ (ls : List (List UInt8)), ls ≠ [] → (∀ x ∈ ls, labB x = true) → splitD (jn ls) = ls
 | [], h, _ => absurd rfl h
 | [x], _, h => by rw [jn_one]; exact splitD_no x (labB_no46 (h x (by simp)))
 | x :: y :: r, _, h => by
  rw [jn_cons x (y :: r) (by simp), splitD_at x _ (labB_no46 (h x (by simp))), split_jn (y :: r) (by simp) (fun z hz => h z (List.mem_cons_of_mem _ hz))]
theorem jn_ne {ls : List (List UInt8)} (h : ls ≠ []) (hl : ∀ x ∈ ls, labB x = true) : jn ls ≠ [] := by
 cases ls with
 | nil => exact absurd rfl h
 | cons x r =>
  have hx := labB_ne (hl x (by simp))
  cases r with
  | nil => rw [jn_one]; exact hx
  | cons y r => rw [jn_cons x (y :: r) (by simp)]; simp
theorem parts_jn {ls : List (List UInt8)} (hl : ∀ x ∈ ls, labB x = true) : partsL (jn ls) = ls := by
 unfold partsL
 by_cases h : ls = []
 ·subst h; rfl
 ·rw [if_neg (jn_ne h hl), split_jn ls h hl]
theorem right_jn {ls : List (List UInt8)} (hl : ∀ x ∈ ls, labB x = true) (h8 : ls.length ≤ 8) : rightB (jn ls) = true := by
 unfold rightB
 rw [parts_jn hl]
 simp [h8]
 exact hl
theorem labs_jn {ls : List (List UInt8)} (hl : ∀ x ∈ ls, labB x = true) (h8 : ls.length ≤ 8) : labsL (jn ls) = ls := by
 unfold labsL
 rw [if_pos (right_jn hl h8), parts_jn hl]
theorem labs_all (l : List UInt8) : ∀ x ∈ labsL l, labB x = true := by
 unfold labsL
 split
 ·rename_i h; unfold rightB at h; simp at h; exact h.2
 ·intro x hx; cases hx
theorem labs_take_all (l : List UInt8) (n : Nat) : ∀ x ∈ (labsL l).take n, labB x = true := fun x hx => labs_all l x (List.mem_of_mem_take hx)
theorem labs_top (l : List UInt8) (n : Int) : labsL (topL l n) = (labsL l).take n.toNat := labs_jn (labs_take_all l _) (by have := labsL_len l; rw [List.length_take]; omega)
theorem right_top (l : List UInt8) (n : Int) : rightB (topL l n) = true := right_jn (labs_take_all l _) (by have := labsL_len l; rw [List.length_take]; omega)
theorem jn_labs {l : List UInt8} (h : rightB l = true) : jn (labsL l) = l := by unfold labsL; rw [if_pos h, jn_parts]
def okC (c : UInt8) : Prop := c ≠ 47 ∧ c ≠ 62
theorem okC_dig {c : UInt8} (h : 48 ≤ c.toNat ∧ c.toNat ≤ 57) : okC c := by
 constructor <;> (rintro rfl; revert h; decide)
theorem dec_chr : ∀ n : Fin 256, ∀ c ∈ Lib.decDigits n, 48 ≤ c.toNat ∧ c.toNat ≤ 57 := by decide +kernel
theorem byte_chr {b : Int} (h : 0 ≤ b ∧ b ≤ 255) {c : UInt8} (hc : c ∈ Lib.decDigits b.toNat) : okC c := okC_dig (dec_chr ⟨b.toNat, by omega⟩ c hc)
theorem print4_chr (a : Int) : ∀ c ∈ print4 a, okC c := by
 intro c hc
 unfold print4 at hc
 rw [txt4_is] at hc
 simp only [List.mem_append, List.mem_cons] at hc
 have h46 : okC 46 := ⟨by decide, by decide⟩
 rcases hc with h | h | h | h | h | h | h
 ·exact byte_chr (byteI_range a 0) h
 ·rw [h]; exact h46
 ·exact byte_chr (byteI_range a 1) h
 ·rw [h]; exact h46
 ·exact byte_chr (byteI_range a 2) h
 ·rw [h]; exact h46
 ·exact byte_chr (byteI_range a 3) h
theorem parse4_chr {l : List UInt8} (h : (parse4 l).2 = 0) : ∀ c ∈ l, okC c := by
 have e := (parse_ok h).1
 intro c hc
 rw [← e] at hc
 exact print4_chr _ c hc
theorem hexV_47 : hexV 47 = none := by decide
theorem hexV_62 : hexV 62 = none := by decide
theorem hexV_chr {c : UInt8} {d : Nat} (h : hexV c = some d) : okC c := by
 constructor
 ·rintro rfl; rw [hexV_47] at h; cases h
 ·rintro rfl; rw [hexV_62] at h; cases h
theorem hexM_chr : ∀ (l : List UInt8) (acc v : Nat), hexM acc l = some v → ∀ c ∈ l, okC c
 | [], _, _, _, c, hc => by cases hc
 | x :: r, acc, v, h, c, hc => by
  unfold hexM at h
  cases hx : hexV x with
  | none => rw [hx] at h; cases h
  | some d =>
   rw [hx] at h
   dsimp only at h
   split at h
   ·cases h
   ·rcases List.mem_cons.1 hc with rfl | hc
    ·exact hexV_chr hx
    ·exact hexM_chr r _ v h c hc
theorem grpV_chr {l : List UInt8} {v : Nat} (h : grpV l = some v) : ∀ c ∈ l, okC c := by
 unfold grpV hexP at h
 split at h
 ·cases h
 ·split at h
  ·rename_i e; rw [e]; simp
  ·exact hexM_chr l 0 v h
theorem lastV_chr {d : Bool} {p : List UInt8} {vs : List Nat} (h : lastV d p = some vs) : ∀ c ∈ p, okC c := by
 unfold lastV at h
 split at h
 ·rename_i e; exact parse4_chr e.2
 ·cases hg : grpV p with
  | none => rw [hg] at h; cases h
  | some v => exact grpV_chr hg
theorem seqV_chr (d : Bool) : ∀ (ps : List (List UInt8)) (vs : List Nat), seqV d ps = some vs → ∀ p ∈ ps, ∀ c ∈ p, okC c
 | [], _, _, p, hp => by cases hp
 | [q], vs, h, p, hp => by
  rw [List.mem_singleton] at hp
  subst hp
  exact lastV_chr h
 | q :: q' :: r, vs, h, p, hp => by
  unfold seqV at h
  cases h1 : grpV q with
  | none => rw [h1] at h; cases h
  | some v =>
   rw [h1] at h
   cases h2 : seqV d (q' :: r) with
   | none => rw [h2] at h; cases h
   | some us =>
    rcases List.mem_cons.1 hp with rfl | hp
    ·exact grpV_chr h1
    ·exact seqV_chr d (q' :: r) us h2 p hp
theorem splitC_mem : ∀ (l : List UInt8) (c : UInt8), c ∈ l → c ≠ 58 → ∃ p ∈ splitC l, c ∈ p
 | [], c, h, _ => by cases h
 | x :: r, c, h, hc => by
  unfold splitC
  by_cases hx : x = 58
  ·rw [if_pos hx]
   rcases List.mem_cons.1 h with rfl | h
   ·exact absurd hx hc
   ·obtain ⟨p, hp, hcp⟩ := splitC_mem r c h hc
    exact ⟨p, List.mem_cons_of_mem _ hp, hcp⟩
  ·rw [if_neg hx]
   cases hs : splitC r with
   | nil => exact absurd hs (split_ne r)
   | cons q t =>
    dsimp only
    rcases List.mem_cons.1 h with rfl | h
    ·exact ⟨c :: q, List.mem_cons_self, List.mem_cons_self⟩
    ·obtain ⟨p, hp, hcp⟩ := splitC_mem r c h hc
     rw [hs] at hp
     rcases List.mem_cons.1 hp with rfl | hp
     ·exact ⟨x :: p, List.mem_cons_self, List.mem_cons_of_mem _ hcp⟩
     ·exact ⟨p, List.mem_cons_of_mem _ hp, hcp⟩
theorem ok58 : okC 58 := ⟨by decide, by decide⟩
theorem readV_chr {d : Bool} {l : List UInt8} {vs : List Nat} (h : readV d l = some vs) : ∀ c ∈ l, okC c := by
 unfold readV at h
 split at h
 ·rename_i e; rw [e]; simp
 ·intro c hc
  by_cases h58 : c = 58
  ·rw [h58]; exact ok58
  ·obtain ⟨p, hp, hcp⟩ := splitC_mem l c hc h58
   exact seqV_chr d _ vs h p hp c hcp
theorem cc_split (l : List UInt8) : cc l = (l, [], false) ∨ (l = (cc l).1 ++ ([58, 58] ++ (cc l).2.1) ∧ (cc l).2.2 = true) := by
 rcases cc_index l with ⟨_, h⟩ | ⟨k, hk, hk2, h⟩
 ·exact .inl h
 ·refine .inr ⟨?_, by rw [h]⟩
  rw [h]
  dsimp only
  rcases Lib.index_spec l [58, 58] with ⟨e, _⟩ | ⟨i, e, hi, ho, _⟩
  ·rw [hk] at e; omega
  ·rw [hk] at e
   obtain rfl : k = i := by omega
   unfold Lib.occAt at ho
   obtain ⟨r, hr⟩ := List.isPrefixOf_iff_prefix.1 ho
   have e2 : l.drop (k + 2) = r := by rw [← List.drop_drop, ← hr]; rfl
   rw [e2, hr, List.take_append_drop]
theorem parse6_chr {l : List UInt8} {gs : List Nat} (h : parse6 l = some gs) : ∀ c ∈ l, okC c := by
 unfold parse6 at h
 cases h1 : readV (!(cc l).2.2) (cc l).1 with
 | none => rw [h1] at h; cases h
 | some u =>
  rw [h1] at h
  cases h2 : readV true (cc l).2.1 with
  | none => rw [h2] at h; cases h
  | some v =>
   rcases cc_split l with e | ⟨e, _⟩
   ·rw [e] at h1
    exact readV_chr h1
   ·intro c hc
    rw [e] at hc
    simp only [List.mem_append, List.mem_cons, List.not_mem_nil, or_false] at hc
    rcases hc with hc | (rfl | rfl) | hc
    ·exact readV_chr h1 c hc
    ·exact ok58
    ·exact ok58
    ·exact readV_chr h2 c hc
theorem print6_chr (f : Nat → Int) (hf : ∀ k, 0 ≤ f k ∧ f k ≤ 65535) : ∀ c ∈ print6 f, okC c := parse6_chr (back6_id f hf)
theorem mem_chr {c : UInt8} (h : memB c = true) : okC c := by
 constructor <;> (rintro rfl; revert h; decide)
theorem tail_chr : ∀ (ps : List (List UInt8)), (∀ p ∈ ps, ∀ c ∈ p, okC c) → ∀ c ∈ Lib.joinTail [46] ps, okC c := by
 intro ps h c hc
 unfold Lib.joinTail at hc
 rw [List.mem_flatten] at hc
 obtain ⟨q, hq, hcq⟩ := hc
 rw [List.mem_map] at hq
 obtain ⟨p, hp, rfl⟩ := hq
 rcases List.mem_append.1 hcq with h1 | h1
 ·rw [List.mem_singleton] at h1; rw [h1]; exact ⟨by decide, by decide⟩
 ·exact h p hp c h1
theorem path_chr {p : List UInt8} (h : rightB p = true) : ∀ c ∈ p, okC c := by
 have e := jn_labs h
 have hl : ∀ q ∈ labsL p, ∀ c ∈ q, okC c := by
  intro q hq c hc
  have hall : (partsL p).all labB = true := by unfold rightB at h; simp only [Bool.and_eq_true] at h; exact h.2
  unfold labsL at hq
  rw [if_pos h] at hq
  have hb := List.all_eq_true.1 hall q hq
  unfold labB at hb
  simp only [Bool.and_eq_true] at hb
  exact mem_chr (List.all_eq_true.1 hb.1.1 c hc)
 intro c hc
 rw [← e] at hc
 unfold jn at hc
 cases hs : labsL p with
 | nil => rw [hs, Lib.join_nil] at hc; cases hc
 | cons q r =>
  rw [hs] at hc hl
  rw [Lib.join_cons] at hc
  rcases List.mem_append.1 hc with h1 | h1
  ·exact hl q List.mem_cons_self c h1
  ·exact tail_chr r (fun p hp => hl p (List.mem_cons_of_mem _ hp)) c h1
theorem decN_chr (n : Nat) : ∀ c ∈ decN n, okC c := fun c hc => okC_dig (dec_digs n c hc)
theorem tx_chr {l : List UInt8} (h : txB l = true) : ∀ c ∈ l, okC c := by
 rw [← dec_val h]; exact decN_chr _
end Go.Proofs.YtboinifeemghaaaGreatDoor
namespace Go.Proofs.YtboinifeemghaaaGreatDoor
def maskI (n : Int) : Int := MM - 2 ^ (128 - min n.toNat 128)
def bitI (v i : Int) : Bool := decide (0 ≤ i ∧ i < 128 ∧ v / 2 ^ (127 - i).toNat % 2 = 1)
def sameI (a b : Int) : Nat := ((List.range 128).find? fun i : Nat => bitI a i != bitI b i).getD 128
theorem word_lit (n : Int) (h0 : 0 ≤ n) (h : n < 18446744073709551616) : Word n := ⟨h0, h⟩
theorem mask_mod (n : Int) (h : 1 ≤ n) : (wv 18446744073709551615 18446744073709551615 * 2 ^ (128 - n).toNat) % MM = maskI n % MM := by
 have e : (128 - n).toNat = 128 - min n.toNat 128 := by omega
 unfold maskI; rw [e]
 generalize (2 : Int) ^ (128 - min n.toNat 128) = z
 unfold wv MM; omega
theorem mask_range (n : Int) : 0 ≤ maskI n ∧ maskI n < MM := by
 unfold maskI
 have h1 : (2 : Int) ^ (128 - min n.toNat 128) ≤ 2 ^ 128 := by
  have := Nat.pow_le_pow_right (n := 2) (by decide) (show 128 - min n.toNat 128 ≤ 128 by omega)
  exact_mod_cast this
 have h2 : (0 : Int) < 2 ^ (128 - min n.toNat 128) := Int.pow_pos (by decide)
 rw [show (2 : Int) ^ 128 = MM by rfl] at h1
 generalize (2 : Int) ^ (128 - min n.toNat 128) = z at *; omega
theorem wv_mask (n : Int) : wv (hi (maskI n)) (lo (maskI n)) = maskI n := by
 rw [wv_hi_lo]; exact Int.emod_eq_of_lt (mask_range n).1 (mask_range n).2
theorem mask_zero (n : Int) (h : n < 1) : maskI n = 0 := by
 unfold maskI; rw [show n.toNat = 0 by omega]; rfl
theorem mask_nat (n : Int) : (maskI n).toNat = 2 ^ 128 - (2 ^ (128 - min n.toNat 128) - 1 + 1) := by
 have h := Nat.two_pow_pos (128 - min n.toNat 128)
 have e : maskI n = ((2 ^ 128 - 2 ^ (128 - min n.toNat 128) : Nat) : Int) := by
  unfold maskI MM
  have h1 : 2 ^ (128 - min n.toNat 128) ≤ 2 ^ 128 := Nat.pow_le_pow_right (by decide) (by omega)
  rw [Int.ofNat_sub h1]; simp
 rw [e, Int.toNat_natCast, Nat.sub_add_cancel h]
theorem top_nat (a j : Nat) (ha : a < 2 ^ 128) (hj : j ≤ 128) : a &&& (2 ^ 128 - (2 ^ j - 1 + 1)) = a / 2 ^ j * 2 ^ j := by
 apply Nat.eq_of_testBit_eq
 intro i
 have h1 : 2 ^ j - 1 < 2 ^ 128 := by
  have := Nat.two_pow_pos j
  have : 2 ^ j ≤ 2 ^ 128 := Nat.pow_le_pow_right (by decide) hj
  omega
 rw [Nat.testBit_and, Nat.testBit_two_pow_sub_succ h1, Nat.testBit_two_pow_sub_one, Nat.testBit_mul_two_pow, Nat.testBit_div_two_pow]
 by_cases hi : i < j
 ·have : ¬ j ≤ i := by omega
  simp [hi, this]
 ·have hji : j ≤ i := by omega
  by_cases h128 : i < 128
  ·simp [hi, hji, h128]
  ·have : a.testBit i = false := Nat.testBit_lt_two_pow (Nat.lt_of_lt_of_le ha (Nat.pow_le_pow_right (by decide) (by omega)))
   simp [hi, hji, h128, this]
theorem topI (a n : Int) (h0 : 0 ≤ a) (h1 : a < MM) : andI a (maskI n) = a / 2 ^ (128 - min n.toNat 128) * 2 ^ (128 - min n.toNat 128) := by
 obtain ⟨k, rfl⟩ := Int.eq_ofNat_of_zero_le h0
 unfold andI
 rw [mask_nat, Int.toNat_natCast, top_nat k _ (by unfold MM at h1; omega) (by omega)]
 simp
theorem div_step (a : Int) (k : Nat) (hk : k < 128) : a / 2 ^ (127 - k) = 2 * (a / 2 ^ (128 - k)) + a / 2 ^ (127 - k) % 2 := by
 have e : (2 : Int) ^ (128 - k) = 2 ^ (127 - k) * 2 := by rw [← Int.pow_succ]; congr 1; omega
 rw [e, ← Int.ediv_ediv_of_nonneg (Int.pow_nonneg (by decide))]
 generalize a / 2 ^ (127 - k) = z
 omega
theorem bit_def (a : Int) (k : Nat) (hk : k < 128) : bitI a k = decide (a / 2 ^ (127 - k) % 2 = 1) := by
 unfold bitI
 rw [show (127 - (k : Int)).toNat = 127 - k by omega]
 have : (k : Int) < 128 := by omega
 simp [this]
theorem div_same (a b : Int) (k : Nat) (hk : k ≤ 128) (h0 : a / 2 ^ 128 = b / 2 ^ 128) (h : ∀ j : Nat, j < k → bitI a j = bitI b j) : a / 2 ^ (128 - k) = b / 2 ^ (128 - k) := by
 induction k with
 | zero => exact h0
 | succ k ih =>
  have i := ih (by omega) (fun j hj => h j (by omega))
  have hb := h k (by omega)
  rw [bit_def a k (by omega), bit_def b k (by omega), decide_eq_decide] at hb
  rw [show 128 - (k + 1) = 127 - k by omega, div_step a k (by omega), div_step b k (by omega), i]
  generalize a / 2 ^ (127 - k) = x at *; generalize b / 2 ^ (127 - k) = y at *
  omega
theorem big_div (a : Int) (h0 : 0 ≤ a) (h1 : a < MM) : a / 2 ^ 128 = 0 := Int.ediv_eq_zero_of_lt h0 h1
end Go.Proofs.YtboinifeemghaaaGreatDoor
namespace Go.Proofs.YtboinifeemghaaaGreatDoor
open Go.RowKit
theorem and_any (ah al bh bl : Int) (h1 : Word ah) (h2 : Word al) (h3 : Word bh) (h4 : Word bl) (w : World) :
  Calls Tryz.prog 137 #[.agg #[.int .u64 ah, .int .u64 al], .agg #[.int .u64 bh, .int .u64 bl]] w fun e w' =>
   e = .returned (.agg #[.int .u64 (hi (andI (wv ah al) (wv bh bl))), .int .u64 (lo (andI (wv ah al) (wv bh bl)))]) ∧ Below w.heap.size w w' := by
 obtain ⟨P1, P2⟩ := and_pure h1 h2 h3 h4
 rw [P1, P2]; clear P1 P2 h1 h2 h3 h4
 go_enter Tryz.func137, Tryz.ntmps137
 go_wp2
 exact bodyPost_ret (v := .agg #[.int .u64 (bits .and .u64 ah bh), .int .u64 (bits .and .u64 al bl)]) (by simp [results, Tryz.results137, go_sem]) rfl ⟨rfl, (by repeat (first | exact Below.refl _ _ | assumption | (with_reducible refine Below.drew ?_) | ((with_reducible first | refine Below.setCell ?_ ?h _ | refine Below.alloc ?_ ?h _); case h => first | omega | (simp; done) | (simp; omega))))⟩
theorem mask_any (n : Int) (hn : n ≤ 9223372036854775807) (w : World) :
  Calls Tryz.prog 138 #[.int .i64 n] w fun e w' =>
   e = .returned (.agg #[.int .u64 (hi (maskI n)), .int .u64 (lo (maskI n))]) ∧ Below w.heap.size w w' := by
 by_cases c1 : n < 1
 ·rw [mask_zero n c1, show hi 0 = 0 from rfl, show lo 0 = 0 from rfl]
  go_enter Tryz.func138, Tryz.ntmps138
  go_wp2
  exact bodyPost_ret (v := .agg #[.int .u64 0, .int .u64 0]) (by simp [results, Tryz.results138, go_sem]) rfl ⟨rfl, (by repeat (first | exact Below.refl _ _ | assumption | (with_reducible refine Below.drew ?_) | ((with_reducible first | refine Below.setCell ?_ ?h _ | refine Below.alloc ?_ ?h _ | refine Below.trans ?_ (hb.mono ?h)); case h => first | omega | (simp; done) | (simp; omega))))⟩
 ·rw [hi_congr (mask_mod n (by omega)).symm, lo_congr (mask_mod n (by omega)).symm]
  go_enter Tryz.func138, Tryz.ntmps138
  go_wp2_with fail
  refine (left_any _ _ _ (word_lit 18446744073709551615 (by decide) (by decide)) (word_lit 18446744073709551615 (by decide) (by decide)) _).mono ?_
  rintro e w' ⟨rfl, hb⟩; obtain ⟨q1, q2⟩ := bcell hb; have hz := hb.size; (try simp at hz)
  go_wp2
  refine bodyPost_ret (v := .agg #[.int .u64 (hi (wv 18446744073709551615 18446744073709551615 * 2 ^ (128 - n).toNat)), .int .u64 (lo (wv 18446744073709551615 18446744073709551615 * 2 ^ (128 - n).toNat))]) (by simp [results, Tryz.results138, go_sem, q1]) rfl ⟨rfl, ?_⟩
  exact (by repeat (first | exact Below.refl _ _ | assumption | (with_reducible refine Below.drew ?_) | ((with_reducible first | refine Below.setCell ?_ ?h _ | refine Below.alloc ?_ ?h _ | refine Below.trans ?_ (hb.mono ?h)); case h => first | omega | (simp; done) | (simp; omega))))
theorem top_any (ah al n : Int) (h1 : Word ah) (h2 : Word al) (hn : n ≤ 9223372036854775807) (w : World) :
  Calls Tryz.prog 112 #[.agg #[.int .u64 ah, .int .u64 al], .int .i64 n] w fun e w' =>
   e = .returned (.agg #[.int .u64 (hi (andI (wv ah al) (maskI n))), .int .u64 (lo (andI (wv ah al) (maskI n)))]) ∧ Below w.heap.size w w' := by
 rw [← wv_mask n]
 go_enter Tryz.func112, Tryz.ntmps112
 go_wp2
 go_region_held3 (fun w' => w'.cell? ⟨w.heap.size, 0, none⟩ = some (.int .u64 ah) ∧ w'.cell? ⟨w.heap.size, 1, none⟩ = some (.int .u64 al)) (first | (simp [go_sem, World.cell?_alloc_past]; done) | ((repeat' apply And.intro) <;> (repeat (first | assumption | (simp only [World.cell?_drew]) | (with_reducible refine (World.cell?_setCell_far _ _ _ _ ?h).trans ?_; case h => first | omega | (simp; done) | (simp; omega)) | (with_reducible refine (hb4.cell ?h).trans ?_; case h => first | omega | (simp; done) | (simp; omega)) | (with_reducible refine (hb3.cell ?h).trans ?_; case h => first | omega | (simp; done) | (simp; omega)) | (with_reducible refine (hb2.cell ?h).trans ?_; case h => first | omega | (simp; done) | (simp; omega)) | (with_reducible refine (hb.cell ?h).trans ?_; case h => first | omega | (simp; done) | (simp; omega)) | (with_reducible refine (hb0.cell ?h).trans ?_; case h => first | omega | (simp; done) | (simp; omega)))) <;> (try (simp [go_sem, World.cell?_alloc_past]))))
  (first
   | (go_at_call 138; refine (mask_any n hn _).mono ?_; rintro e w' ⟨rfl, hb⟩; obtain ⟨q1, q2⟩ := bcell hb; have hz := hb.size; (try simp at hz))
   | (go_at_call 137; refine (and_any _ _ _ _ h1 h2 (word_hi _) (word_lo _) _).mono ?_; rintro e w2 ⟨rfl, hb2x⟩; have hb2 := hb.trans (hb2x.mono hb.size); obtain ⟨q3, q4⟩ := bcell hb2; have hz2 := hb2.size; (try simp at hz2)))
 go_wp2
 refine bodyPost_ret (v := .agg #[.int .u64 (hi (andI (wv ah al) (wv (hi (maskI n)) (lo (maskI n))))), .int .u64 (lo (andI (wv ah al) (wv (hi (maskI n)) (lo (maskI n)))))]) (by simp [results, Tryz.results112, go_sem, q3, q1]) rfl ⟨rfl, ?_⟩
 exact (by repeat (first | exact Below.refl _ _ | assumption | (with_reducible refine Below.drew ?_) | ((with_reducible first | refine Below.setCell ?_ ?h _ | refine Below.alloc ?_ ?h _ | refine Below.trans ?_ (hb4.mono ?h) | refine Below.trans ?_ (hb3.mono ?h) | refine Below.trans ?_ (hb2.mono ?h) | refine Below.trans ?_ (hb.mono ?h) | refine Below.trans ?_ (hb0.mono ?h)); case h => first | omega | (simp; done) | (simp; omega))))
end Go.Proofs.YtboinifeemghaaaGreatDoor
