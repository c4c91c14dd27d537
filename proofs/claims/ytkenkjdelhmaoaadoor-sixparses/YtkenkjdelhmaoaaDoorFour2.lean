/- What the library's variables hold; Print of package four. No conditions beyond ranges. -/
import Derived.Test.YtkenkjdelhmaoaaDoorFour1
import Derived.Test.YtkenkjdelhmaoaaDoorShelf
import Derived.WalkSmall
import Derived.Lib.SmallJoins
import Derived.Lib.AppendIntMem
namespace Go.Proofs.YtkenkjdelhmaoaaDoor
set_option linter.unusedVariables false
set_option linter.unusedSimpArgs false
open Go.RowKit
/-- what the library's own variables hold -/
structure Env (w : World) : Prop where
  m : ∃ m, w.cell? ⟨0, 0, none⟩ = some (.int .i64 m)
  s : ∃ tp p, w.var? Tryd.prog "strconv.ErrSyntax" = some #[.iface tp p]
  r : ∃ tp p, w.var? Tryd.prog "strconv.ErrRange" = some #[.iface tp p]
  t : Lib.TabIs Tryd.prog w "internal/strconv.uint64pow10" .u64 Lib.pow10Tab
theorem glob_s : (Tryd.prog.globalNamed "strconv.ErrSyntax").isSome = true := by kernel_rfl
theorem glob_r : (Tryd.prog.globalNamed "strconv.ErrRange").isSome = true := by kernel_rfl
theorem glob_t : (Tryd.prog.globalNamed "internal/strconv.uint64pow10").isSome = true := by kernel_rfl
theorem var_later {w w1 : World} {n : String} {cs : Array Value} (hg : (Tryd.prog.globalNamed n).isSome = true) (h : w.var? Tryd.prog n = some cs) (hb : Below w.heap.size w w1) : w1.var? Tryd.prog n = some cs := by
  cases hq : Tryd.prog.globalNamed n with
  | none => rw [hq] at hg; cases hg
  | some g => exact Joins.var_stays hq h hb (Nat.le_refl _)
theorem Env.later {w w1 : World} (h : Env w) (hb : Below w.heap.size w w1) : Env w1 := by
  obtain ⟨⟨m, hm⟩, ⟨tp, p, hs⟩, ⟨tr, q, hr⟩, ht⟩ := h
  exact ⟨⟨m, cell_later hb hm⟩, ⟨tp, p, var_later glob_s hs hb⟩, ⟨tr, q, var_later glob_r hr hb⟩, var_later glob_t ht hb⟩
/-- the text of an address -/
def txt4 (b0 b1 b2 b3 : Int) : List UInt8 := Lib.join [Lib.decDigits b0.toNat, Lib.decDigits b1.toNat, Lib.decDigits b2.toNat, Lib.decDigits b3.toNat] [46]
def print4 (a : Int) : List UInt8 := txt4 (byteI a 0) (byteI a 1) (byteI a 2) (byteI a 3)
theorem itoa_t (n : Int) (n0 : 0 ≤ n) (n1 : n ≤ 255) (w : World) (hE : Env w) : Calls Tryd.prog 32 #[.int .i64 n] w fun e w' => e = .returned (.string ⟨(Lib.decDigits n.toNat).toArray⟩) ∧ Below w.heap.size w w' := by
  refine (Tryd.strconv_Itoa n (by omega) (by omega) w hE.t).mono ?_
  rintro e w' ⟨rfl, k, os, rfl⟩
  have h : Lib.itoa n = Lib.decDigits n.toNat := by unfold Lib.itoa; rw [if_neg (by omega)]
  rw [h]
  exact ⟨rfl, Lib.below_grow _ w (Nat.le_refl _) k os⟩
def strs4 (f : Nat → ByteArray) (j : Nat) : Array Value := #[.string (if 0 < j then f 0 else ⟨#[]⟩), .string (if 1 < j then f 1 else ⟨#[]⟩), .string (if 2 < j then f 2 else ⟨#[]⟩), .string (if 3 < j then f 3 else ⟨#[]⟩)]
theorem strs4_set (f : Nat → ByteArray) (j : Nat) (h : j < 4) : (strs4 f j).setIfInBounds j (.string (f j)) = strs4 f (j + 1) := by
  rcases j with _ | _ | _ | _ | j <;> first | rfl | omega
theorem strs4_get (f : Nat → ByteArray) (j i : Nat) (h : i < 4) : (strs4 f j)[i]? = some (.string (if i < j then f i else ⟨#[]⟩)) := by
  rcases i with _ | _ | _ | _ | i <;> first | rfl | omega
theorem decDigits_len (n : Nat) (h : n ≤ 255) : (Lib.decDigits n).length ≤ 3 := by
  have : ∀ n : Fin 256, (Lib.decDigits n).length ≤ 3 := by decide +kernel
  exact this ⟨n, by omega⟩
def strOf (a : Int) (i : Nat) : ByteArray := ⟨(Lib.decDigits (byteI a i).toNat).toArray⟩
set_option maxRecDepth 100000 in
set_option maxHeartbeats 1600000 in
theorem print4_t (a : Int) (a0 : 0 ≤ a) (a1 : a ≤ 4294967295) (w : World) (hE : Env w) : Calls Tryd.prog 12 #[.int .u32 a] w fun e w' => e = .returned (.string ⟨(print4 a).toArray⟩) ∧ Below w.heap.size w w' := by
  go_enter Tryd.func12, Tryd.ntmps12
  go_wp2_with fail
  have Z1 := Row.new w #[.string ⟨#[]⟩, .string ⟨#[]⟩, .string ⟨#[]⟩, .string ⟨#[]⟩] 60
  have hb0 : Below w.heap.size w (w.alloc (.cells #[.string ⟨#[]⟩, .string ⟨#[]⟩, .string ⟨#[]⟩, .string ⟨#[]⟩] 60)) := (by repeat (first | exact Below.refl _ _ | assumption | (with_reducible refine Below.setCell ?_ ?h _; case h => first | omega | (simp; done) | (simp; omega)) | (with_reducible refine Below.alloc ?_ ?h _; case h => first | omega | (simp; done) | (simp; omega)) | (with_reducible refine Below.drew ?_) | (with_reducible refine Below.trans ?_ (hb4.mono ?h); case h => first | omega | (simp; done) | (simp; omega)) | (with_reducible refine Below.trans ?_ (hb3.mono ?h); case h => first | omega | (simp; done) | (simp; omega)) | (with_reducible refine Below.trans ?_ (hb2.mono ?h); case h => first | omega | (simp; done) | (simp; omega)) | (with_reducible refine Below.trans ?_ (hb.mono ?h); case h => first | omega | (simp; done) | (simp; omega)) | (with_reducible refine Below.trans ?_ (hb0.mono ?h); case h => first | omega | (simp; done) | (simp; omega))))
  refine (bytes4_t a a0 a1 _).mono ?_
  rintro r w1 ⟨rfl, hb1⟩
  replace Z1 := Z1.later hb1
  have hbz := below_step hb0 hb1
  clear hb0 hb1
  unfold arr4
  have r0 := byteI_range a 0
  have r1 := byteI_range a 1
  have r2 := byteI_range a 2
  have r3 := byteI_range a 3
  go_wp2_with fail
  go_loopw [8] (fun i wr => ∃ (j : Nat), j ≤ 4 ∧ i = .int .i64 j ∧ Row wr w.heap.size (strs4 (strOf a) j) 60 ∧ Below w.heap.size w wr) (fun i _ => 4 - (intOf i).toNat)
  case atStart => exact ⟨0, by omega, rfl, Z1, hbz⟩
  case round =>
    clear Z1 hbz
    obtain ⟨j, hj, rfl, R, hb⟩ := hrel
    rcases j with _ | _ | _ | _ | _ | j
    · have hi := idx4_0 (.int .u8 (byteI a 0)) (.int .u8 (byteI a 1)) (.int .u8 (byteI a 2)) (.int .u8 (byteI a 3)) wr
      have HR := Lib.hid R
      have HB := Lib.hid hb
      clear R hb
      go_wp2_with fail
      refine (itoa_t (byteI a 0) r0.1 r0.2 wr (hE.later HB.out)).mono ?_
      rintro r w2 ⟨rfl, hb2⟩
      have R2 := HR.out.later hb2
      have c0 := (R2.cell 0).trans (strs4_get (strOf a) 0 0 (by decide))
      have f0 := R2.frozen 0
      have HR2 := Lib.hid R2
      have HB2 := Lib.hid (below_step HB.out hb2)
      clear R2 HR HB hb2
      go_wp2
      exact ⟨⟨1, by omega, by go_num, by have := HR2.out.set 0 (.string (strOf a 0)); rw [strs4_set (strOf a) 0 (by decide)] at this; exact this, HB2.out.setCell (Nat.le_refl _) _⟩, by simp [intOf]⟩
    · have hi := idx4_1 (.int .u8 (byteI a 0)) (.int .u8 (byteI a 1)) (.int .u8 (byteI a 2)) (.int .u8 (byteI a 3)) wr
      have HR := Lib.hid R
      have HB := Lib.hid hb
      clear R hb
      go_wp2_with fail
      refine (itoa_t (byteI a 1) r1.1 r1.2 wr (hE.later HB.out)).mono ?_
      rintro r w2 ⟨rfl, hb2⟩
      have R2 := HR.out.later hb2
      have c0 := (R2.cell 1).trans (strs4_get (strOf a) 1 1 (by decide))
      have f0 := R2.frozen 1
      have HR2 := Lib.hid R2
      have HB2 := Lib.hid (below_step HB.out hb2)
      clear R2 HR HB hb2
      go_wp2
      exact ⟨⟨2, by omega, by go_num, by have := HR2.out.set 1 (.string (strOf a 1)); rw [strs4_set (strOf a) 1 (by decide)] at this; exact this, HB2.out.setCell (Nat.le_refl _) _⟩, by simp [intOf]⟩
    · have hi := idx4_2 (.int .u8 (byteI a 0)) (.int .u8 (byteI a 1)) (.int .u8 (byteI a 2)) (.int .u8 (byteI a 3)) wr
      have HR := Lib.hid R
      have HB := Lib.hid hb
      clear R hb
      go_wp2_with fail
      refine (itoa_t (byteI a 2) r2.1 r2.2 wr (hE.later HB.out)).mono ?_
      rintro r w2 ⟨rfl, hb2⟩
      have R2 := HR.out.later hb2
      have c0 := (R2.cell 2).trans (strs4_get (strOf a) 2 2 (by decide))
      have f0 := R2.frozen 2
      have HR2 := Lib.hid R2
      have HB2 := Lib.hid (below_step HB.out hb2)
      clear R2 HR HB hb2
      go_wp2
      exact ⟨⟨3, by omega, by go_num, by have := HR2.out.set 2 (.string (strOf a 2)); rw [strs4_set (strOf a) 2 (by decide)] at this; exact this, HB2.out.setCell (Nat.le_refl _) _⟩, by simp [intOf]⟩
    · have hi := idx4_3 (.int .u8 (byteI a 0)) (.int .u8 (byteI a 1)) (.int .u8 (byteI a 2)) (.int .u8 (byteI a 3)) wr
      have HR := Lib.hid R
      have HB := Lib.hid hb
      clear R hb
      go_wp2_with fail
      refine (itoa_t (byteI a 3) r3.1 r3.2 wr (hE.later HB.out)).mono ?_
      rintro r w2 ⟨rfl, hb2⟩
      have R2 := HR.out.later hb2
      have c0 := (R2.cell 3).trans (strs4_get (strOf a) 3 3 (by decide))
      have f0 := R2.frozen 3
      have HR2 := Lib.hid R2
      have HB2 := Lib.hid (below_step HB.out hb2)
      clear R2 HR HB hb2
      go_wp2
      exact ⟨⟨4, by omega, by go_num, by have := HR2.out.set 3 (.string (strOf a 3)); rw [strs4_set (strOf a) 3 (by decide)] at this; exact this, HB2.out.setCell (Nat.le_refl _) _⟩, by simp [intOf]⟩
    · have hlt := R.lt
      have l0 := decDigits_len (byteI a 0).toNat (by omega)
      have l1 := decDigits_len (byteI a 1).toNat (by omega)
      have l2 := decDigits_len (byteI a 2).toNat (by omega)
      have l3 := decDigits_len (byteI a 3).toNat (by omega)
      have HR := Lib.hid R
      have HB := Lib.hid hb
      clear R hb
      have hjn := Tryd.strings_Join w.heap.size 0 4 [strOf a 0, strOf a 1, strOf a 2, strOf a 3] ⟨#[46]⟩ wr (fun j x hx => by
        have hj : j < 4 := (List.getElem?_eq_some_iff.1 hx).1
        rw [Nat.zero_add]
        refine (HR.out.cell j).trans ((strs4_get (strOf a) 4 j hj).trans ?_)
        rw [if_pos hj]
        rcases j with _ | _ | _ | _ | j
        · cases hx; rfl
        · cases hx; rfl
        · cases hx; rfl
        · cases hx; rfl
        · omega) hlt (by simp) (by simp) (by
        simp [Lib.join_cons, Lib.joinTail, strOf]
        omega)
      have HJ := Lib.hid hjn
      clear hjn
      go_wp2_with fail
      refine HJ.out.mono ?_
      rintro r w3 ⟨rfl, hb3⟩
      have hb4 := below_step HB.out hb3
      go_wp2
      go_ret
      exact ⟨rfl, hb4⟩
    · omega
end Go.Proofs.YtkenkjdelhmaoaaDoor
