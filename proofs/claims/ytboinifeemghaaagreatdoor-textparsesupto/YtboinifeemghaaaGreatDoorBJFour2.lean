/- Four2, Six4, Six5, Six6, Four3, Four4, SixP, Six7, Six7b, Six8, Six9, Six10, Six11, Six12, Four5, Six13: what the theorem needs of these texts. No conditions beyond those that are written. -/
import Derived.Test.YtboinifeemghaaaGreatDoorBJF0
set_option linter.unusedSimpArgs false
set_option linter.unusedVariables false
set_option maxHeartbeats 8000000
set_option maxRecDepth 100000
namespace Go.Proofs.YtboinifeemghaaaGreatDoor
open Go.RowKit
structure Env (w : World) : Prop where
 m : ∃ m, w.cell? ⟨0, 0, none⟩ = some (.int .i64 m)
 s : ∃ tp p, w.var? Tryz.prog "strconv.ErrSyntax" = some #[.iface tp p]
 r : ∃ tp p, w.var? Tryz.prog "strconv.ErrRange" = some #[.iface tp p]
 t : Lib.TabIs Tryz.prog w "internal/strconv.uint64pow10" .u64 Lib.pow10Tab
theorem glob_s : (Tryz.prog.globalNamed "strconv.ErrSyntax").isSome = true := by kernel_rfl
theorem glob_r : (Tryz.prog.globalNamed "strconv.ErrRange").isSome = true := by kernel_rfl
theorem glob_t : (Tryz.prog.globalNamed "internal/strconv.uint64pow10").isSome = true := by kernel_rfl
theorem var_later {w w1 : World} {n : String} {cs : Array Value} (hg : (Tryz.prog.globalNamed n).isSome = true) (h : w.var? Tryz.prog n = some cs) (hb : Below w.heap.size w w1) : w1.var? Tryz.prog n = some cs := by
 cases hq : Tryz.prog.globalNamed n with
 | none => rw [hq] at hg; cases hg
 | some g => exact Joins.var_stays hq h hb (Nat.le_refl _)
theorem Env.later {w w1 : World} (h : Env w) (hb : Below w.heap.size w w1) : Env w1 := by
 obtain ⟨⟨m, hm⟩, ⟨tp, p, hs⟩, ⟨tr, q, hr⟩, ht⟩ := h
 exact ⟨⟨m, cell_later hb hm⟩, ⟨tp, p, var_later glob_s hs hb⟩, ⟨tr, q, var_later glob_r hr hb⟩, var_later glob_t ht hb⟩
def txt4 (b0 b1 b2 b3 : Int) : List UInt8 := Lib.join [Lib.decDigits b0.toNat, Lib.decDigits b1.toNat, Lib.decDigits b2.toNat, Lib.decDigits b3.toNat] [46]
def print4 (a : Int) : List UInt8 := txt4 (byteI a 0) (byteI a 1) (byteI a 2) (byteI a 3)
theorem itoa_t (n : Int) (n0 : 0 ≤ n) (n1 : n ≤ 255) (w : World) (hE : Env w) : Calls Tryz.prog 77 #[.int .i64 n] w fun e w' => e = .returned (.string ⟨(Lib.decDigits n.toNat).toArray⟩) ∧ Below w.heap.size w w' := by
 refine (Tryz.strconv_Itoa n (by omega) (by omega) w hE.t).mono ?_
 rintro e w' ⟨rfl, k, os, rfl⟩
 have h : Lib.itoa n = Lib.decDigits n.toNat := by unfold Lib.itoa; rw [if_neg (by omega)]
 rw [h]
 exact ⟨rfl, Lib.below_grow _ w (Nat.le_refl _) k os⟩
def strs4 (f : Nat → ByteArray) (j : Nat) : Array Value := #[.string (if 0 < j then f 0 else ⟨#[]⟩), .string (if 1 < j then f 1 else ⟨#[]⟩), .string (if 2 < j then f 2 else ⟨#[]⟩), .string (if 3 < j then f 3 else ⟨#[]⟩)]
theorem strs4_set (f : Nat → ByteArray) (j : Nat) (h : j < 4) : (strs4 f j).setIfInBounds j (.string (f j)) = strs4 f (j + 1) := by
 rcases j with _ | _ | _ | _ | j <;> first | rfl | omega
theorem strs4_get (f : Nat → ByteArray) (j i : Nat) (h : i < 4) : (strs4 f j)[i]? = some (.string (if i < j then f i else ⟨#[]⟩)) := by
 rcases i with _ | _ | _ | _ | i <;> first | rfl | omega
theorem decDigits_len (n : Nat) (h : n ≤ 255) : (Lib.decDigits n).length ≤ 3 := by
 have : ∀ n : Fin 256, (Lib.decDigits n).length ≤ 3 := by decide +kernel
 exact this ⟨n, by omega⟩
def strOf (a : Int) (i : Nat) : ByteArray := ⟨(Lib.decDigits (byteI a i).toNat).toArray⟩
theorem print4_t (a : Int) (a0 : 0 ≤ a) (a1 : a ≤ 4294967295) (w : World) (hE : Env w) : Calls Tryz.prog 36 #[.int .u32 a] w fun e w' => e = .returned (.string ⟨(print4 a).toArray⟩) ∧ Below w.heap.size w w' := by
 go_enter Tryz.func36, Tryz.ntmps36
 go_wp2_with fail
 have Z1 := Row.new w #[.string ⟨#[]⟩, .string ⟨#[]⟩, .string ⟨#[]⟩, .string ⟨#[]⟩] 103
 have hb0 : Below w.heap.size w (w.alloc (.cells #[.string ⟨#[]⟩, .string ⟨#[]⟩, .string ⟨#[]⟩, .string ⟨#[]⟩] 103)) := (by repeat (first | exact Below.refl _ _ | assumption | (with_reducible refine Below.drew ?_) | ((with_reducible first | refine Below.setCell ?_ ?h _ | refine Below.alloc ?_ ?h _ | refine Below.trans ?_ (hb4.mono ?h) | refine Below.trans ?_ (hb3.mono ?h) | refine Below.trans ?_ (hb2.mono ?h) | refine Below.trans ?_ (hb.mono ?h) | refine Below.trans ?_ (hb0.mono ?h)); case h => first | omega | (simp; done) | (simp; omega))))
 refine (bytes4_t a a0 a1 _).mono ?_
 rintro r w1 ⟨rfl, hb1⟩
 replace Z1 := Z1.later hb1
 have hbz := below_step hb0 hb1
 clear hb0 hb1
 unfold arr4
 have r0 := byteI_range a 0
 have r1 := byteI_range a 1
 have r2 := byteI_range a 2
 have r3 := byteI_range a 3
 go_wp2_with fail
 go_loopw [8] (fun i wr => ∃ (j : Nat), j ≤ 4 ∧ i = .int .i64 j ∧ Row wr w.heap.size (strs4 (strOf a) j) 103 ∧ Below w.heap.size w wr) (fun i _ => 4 - (intOf i).toNat)
 case atStart => exact ⟨0, by omega, rfl, Z1, hbz⟩
 case round =>
  clear Z1 hbz
  obtain ⟨j, hj, rfl, R, hb⟩ := hrel
  rcases j with _ | _ | _ | _ | _ | j
  ·have hi := idx4_0 (.int .u8 (byteI a 0)) (.int .u8 (byteI a 1)) (.int .u8 (byteI a 2)) (.int .u8 (byteI a 3)) wr
   have HR := Lib.hid R
   have HB := Lib.hid hb
   clear R hb
   go_wp2_with fail
   refine (itoa_t (byteI a 0) r0.1 r0.2 wr (hE.later HB.out)).mono ?_
   rintro r w2 ⟨rfl, hb2⟩
   have R2 := HR.out.later hb2
   have c0 := (R2.cell 0).trans (strs4_get (strOf a) 0 0 (by decide))
   have f0 := R2.frozen 0
   have HR2 := Lib.hid R2
   have HB2 := Lib.hid (below_step HB.out hb2)
   clear R2 HR HB hb2
   go_wp2
   exact ⟨⟨1, by omega, by go_num, by have := HR2.out.set 0 (.string (strOf a 0)); rw [strs4_set (strOf a) 0 (by decide)] at this; exact this, HB2.out.setCell (Nat.le_refl _) _⟩, by simp [intOf]⟩
  ·have hi := idx4_1 (.int .u8 (byteI a 0)) (.int .u8 (byteI a 1)) (.int .u8 (byteI a 2)) (.int .u8 (byteI a 3)) wr
   have HR := Lib.hid R
   have HB := Lib.hid hb
   clear R hb
   go_wp2_with fail
   refine (itoa_t (byteI a 1) r1.1 r1.2 wr (hE.later HB.out)).mono ?_
   rintro r w2 ⟨rfl, hb2⟩
   have R2 := HR.out.later hb2
   have c0 := (R2.cell 1).trans (strs4_get (strOf a) 1 1 (by decide))
   have f0 := R2.frozen 1
   have HR2 := Lib.hid R2
   have HB2 := Lib.hid (below_step HB.out hb2)
   clear R2 HR HB hb2
   go_wp2
   exact ⟨⟨2, by omega, by go_num, by have := HR2.out.set 1 (.string (strOf a 1)); rw [strs4_set (strOf a) 1 (by decide)] at this; exact this, HB2.out.setCell (Nat.le_refl _) _⟩, by simp [intOf]⟩
  ·have hi := idx4_2 (.int .u8 (byteI a 0)) (.int .u8 (byteI a 1)) (.int .u8 (byteI a 2)) (.int .u8 (byteI a 3)) wr
   have HR := Lib.hid R
   have HB := Lib.hid hb
   clear R hb
   go_wp2_with fail
   refine (itoa_t (byteI a 2) r2.1 r2.2 wr (hE.later HB.out)).mono ?_
   rintro r w2 ⟨rfl, hb2⟩
   have R2 := HR.out.later hb2
   have c0 := (R2.cell 2).trans (strs4_get (strOf a) 2 2 (by decide))
   have f0 := R2.frozen 2
   have HR2 := Lib.hid R2
   have HB2 := Lib.hid (below_step HB.out hb2)
   clear R2 HR HB hb2
   go_wp2
   exact ⟨⟨3, by omega, by go_num, by have := HR2.out.set 2 (.string (strOf a 2)); rw [strs4_set (strOf a) 2 (by decide)] at this; exact this, HB2.out.setCell (Nat.le_refl _) _⟩, by simp [intOf]⟩
  ·have hi := idx4_3 (.int .u8 (byteI a 0)) (.int .u8 (byteI a 1)) (.int .u8 (byteI a 2)) (.int .u8 (byteI a 3)) wr
   have HR := Lib.hid R
   have HB := Lib.hid hb
   clear R hb
   go_wp2_with fail
   refine (itoa_t (byteI a 3) r3.1 r3.2 wr (hE.later HB.out)).mono ?_
   rintro r w2 ⟨rfl, hb2⟩
   have R2 := HR.out.later hb2
   have c0 := (R2.cell 3).trans (strs4_get (strOf a) 3 3 (by decide))
   have f0 := R2.frozen 3
   have HR2 := Lib.hid R2
   have HB2 := Lib.hid (below_step HB.out hb2)
   clear R2 HR HB hb2
   go_wp2
   exact ⟨⟨4, by omega, by go_num, by have := HR2.out.set 3 (.string (strOf a 3)); rw [strs4_set (strOf a) 3 (by decide)] at this; exact this, HB2.out.setCell (Nat.le_refl _) _⟩, by simp [intOf]⟩
  ·have hlt := R.lt
   have l0 := decDigits_len (byteI a 0).toNat (by omega)
   have l1 := decDigits_len (byteI a 1).toNat (by omega)
   have l2 := decDigits_len (byteI a 2).toNat (by omega)
   have l3 := decDigits_len (byteI a 3).toNat (by omega)
   have HR := Lib.hid R
   have HB := Lib.hid hb
   clear R hb
   have hjn := Tryz.strings_Join w.heap.size 0 4 [strOf a 0, strOf a 1, strOf a 2, strOf a 3] ⟨#[46]⟩ wr (fun j x hx => by
    have hj : j < 4 := (List.getElem?_eq_some_iff.1 hx).1
    rw [Nat.zero_add]
    refine (HR.out.cell j).trans ((strs4_get (strOf a) 4 j hj).trans ?_)
    rw [if_pos hj]
    rcases j with _ | _ | _ | _ | j
    ·cases hx; rfl
    ·cases hx; rfl
    ·cases hx; rfl
    ·cases hx; rfl
    ·omega) hlt (by simp) (by simp) (by
    simp [Lib.join_cons, Lib.joinTail, strOf]
    omega)
   have HJ := Lib.hid hjn
   clear hjn
   go_wp2_with fail
   refine HJ.out.mono ?_
   rintro r w3 ⟨rfl, hb3⟩
   have hb4 := below_step HB.out hb3
   go_wp2
   go_ret
   exact ⟨rfl, hb4⟩
  ·omega
structure Env6 (w : World) : Prop where
 e : Env w
 z : w.cell? ⟨9, 15, none⟩ = some (.int .u8 4)
theorem Env6.later {w w1 : World} (h : Env6 w) (hb : Below w.heap.size w w1) : Env6 w1 := ⟨h.e.later hb, cell_later hb h.z⟩
theorem tz64_t (w : World) (h : Env6 w) : Calls Tryz.prog 176 #[.int .u64 16] w fun e w' => e = .returned (.int .i64 4) ∧ w = w' := by
 have z := h.z
 have e1 : IntKind.u64.wrap (-16) = 18446744073709551600 := by decide
 have e2 : bits .and .u64 16 18446744073709551600 = 16 := by decide +kernel
 have e3 : IntKind.u64.wrap (16 * 285870213051353865) = 4573923408821661840 := by decide
 have e4 : IntKind.u64.wrap 4573923408821661840 = 4573923408821661840 := by decide
 go_enter Tryz.func176, Tryz.ntmps176
 go_wp2
 go_ret
 exact ⟨rfl, rfl⟩
theorem tz_t (w : World) (h : Env6 w) : Calls Tryz.prog 173 #[.int .u64 16] w fun e w' => e = .returned (.int .i64 4) ∧ w = w' := by
 go_enter Tryz.func173, Tryz.ntmps173
 go_wp2_with fail
 refine (tz64_t w h).mono ?_
 rintro r w1 ⟨rfl, rfl⟩
 go_wp2
 go_ret
 exact ⟨rfl, rfl⟩
theorem pow2_t (w : World) : Calls Tryz.prog 172 #[.int .i64 16] w fun e w' => e = .returned (.bool true) ∧ w = w' := by
 go_enter Tryz.func172, Tryz.ntmps172
 go_wp2
 all_goals go_ret
 all_goals exact ⟨rfl, rfl⟩
def hexC (k : Nat) : UInt8 := if k < 10 then UInt8.ofNat (48 + k) else UInt8.ofNat (87 + k)
def hexD (n : Nat) : List UInt8 := if h : n < 16 then [hexC n] else hexD (n / 16) ++ [hexC (n % 16)]
termination_by n
decreasing_by omega
theorem hexD_one (n : Nat) (h : n < 16) : hexD n = [hexC n] := by rw [hexD, dif_pos h]
theorem hexD_step (n : Nat) (h : 16 ≤ n) : hexD n = hexD (n / 16) ++ [hexC (n % 16)] := by rw [hexD, dif_neg (by omega)]
theorem and15 (n : Nat) (h : n < 65536) : bits .and .u64 (n : Int) 15 = ((n % 16 : Nat) : Int) := by
 show IntKind.u64.wrap ((BitVec.ofInt 64 (n : Int) &&& BitVec.ofInt 64 15).toNat : Int) = _
 rw [BitVec.toNat_and, ofInt_toNat (n : Int) ⟨by omega, by omega⟩, ofInt_toNat 15 ⟨by decide, by decide⟩]
 have h2 : (n : Int).toNat &&& (15 : Int).toNat = n % 16 := by
  rw [Int.toNat_natCast]; exact Nat.and_two_pow_sub_one_eq_mod n 4
 rw [h2]
 simp [IntKind.wrap, IntKind.bits, IntKind.signed]
 omega
theorem dig36 (k : Nat) (h : k < 16) (hs : k < (⟨#[48, 49, 50, 51, 52, 53, 54, 55, 56, 57, 97, 98, 99, 100, 101, 102, 103, 104, 105, 106, 107, 108, 109, 110, 111, 112, 113, 114, 115, 116, 117, 118, 119, 120, 121, 122]⟩ : ByteArray).size) : (⟨#[48, 49, 50, 51, 52, 53, 54, 55, 56, 57, 97, 98, 99, 100, 101, 102, 103, 104, 105, 106, 107, 108, 109, 110, 111, 112, 113, 114, 115, 116, 117, 118, 119, 120, 121, 122]⟩ : ByteArray)[k]'hs = hexC k := by
 have : ∀ k : Fin 16, (⟨#[48, 49, 50, 51, 52, 53, 54, 55, 56, 57, 97, 98, 99, 100, 101, 102, 103, 104, 105, 106, 107, 108, 109, 110, 111, 112, 113, 114, 115, 116, 117, 118, 119, 120, 121, 122]⟩ : ByteArray)[(k : Nat)]'(Nat.lt_of_lt_of_le k.isLt (by decide)) = hexC k := by decide +kernel
 exact this ⟨k, h⟩
theorem size36 : (⟨#[48, 49, 50, 51, 52, 53, 54, 55, 56, 57, 97, 98, 99, 100, 101, 102, 103, 104, 105, 106, 107, 108, 109, 110, 111, 112, 113, 114, 115, 116, 117, 118, 119, 120, 121, 122]⟩ : ByteArray).size = 36 := by decide
def Tail (cs : Array Value) (l : List UInt8) : Prop := cs.size = 65 ∧ l.length ≤ 65 ∧ ∀ m (h : m < l.length), cs[65 - l.length + m]? = some (.int .u8 (l[m].toNat : Int))
theorem Tail.cons {cs : Array Value} {l : List UInt8} (h : Tail cs l) (c : UInt8) (hl : l.length < 65) : Tail (cs.setIfInBounds (65 - l.length - 1) (.int .u8 (c.toNat : Int))) (c :: l) := by
 obtain ⟨h1, h2, h3⟩ := h
 refine ⟨by simp [h1], by simp; omega, fun m hm => ?_⟩
 rw [Array.getElem?_setIfInBounds]
 rcases m with _ | m
 ·rw [if_pos (by simp; omega), if_pos (by rw [h1]; omega)]; rfl
 ·rw [if_neg (by simp; omega)]
  have := h3 m (by simpa using hm)
  rw [show 65 - (c :: l).length + (m + 1) = 65 - l.length + m by simp; omega]
  exact this
theorem cutA65 (w : World) (g k : Nat) (h : k ≤ 64) : (Instr.sliceAt 204 (.pointer (some ⟨g, 0, none⟩)) (some (.int .i64 (k : Int))) none none).run Tryz.prog w = .ok (.slice (some ⟨g, k, none⟩) (65 - k) (65 - k)) w := by
 have ha : Tryz.prog.arrayLen 204 = 65 := by kernel_rfl
 have he : Tryz.prog.elem 204 = 5 := by kernel_rfl
 have hu : Tryz.prog.underlying 204 = some (.array (Tryz.prog.arrayLen 204) (Tryz.prog.elem 204)) := by rw [ha, he]; exact Tryz.underlying204
 rw [run_sliceAt_array_l (P := Tryz.prog) w 204 ⟨g, 0, none⟩ hu .i64 (k : Int) (by omega) (by rw [ha]; omega)]
 rw [ha, he]
 simp [go_sem]
 omega
theorem bits16_t (N : Nat) (hN : N < 65536) (w : World) (hE : Env6 w) : Calls Tryz.prog 162 #[.slice none 0 0, .int .u64 N, .int .i64 16, .bool false, .bool false] w fun e w' => e = .returned (.tuple #[.slice none 0 0, .string ⟨(hexD N).toArray⟩]) ∧ Below w.heap.size w w' := by
 go_enter Tryz.func162, Tryz.ntmps162
 go_wp2_with fail
 have R0 := Row.new w Tryz.zeroCells204 204
 have hb0 : Below w.heap.size w (w.alloc (.cells Tryz.zeroCells204 204)) := (Below.refl _ _).alloc (Nat.le_refl _) _
 have hT0 : Tail Tryz.zeroCells204 [] := ⟨by kernel_rfl, by simp, fun m hm => by cases hm⟩
 generalize Tryz.zeroCells204 = zs at *
 generalize w.alloc (.cells zs 204) = w0 at *
 have HR := Lib.hid R0
 have HB := Lib.hid hb0
 have HT := Lib.hid hT0
 clear R0 hb0 hT0
 refine (pow2_t w0).mono ?_
 rintro r w1 ⟨rfl, rfl⟩
 go_wp2_with fail
 refine (tz_t w0 (hE.later HB.out)).mono ?_
 rintro r w1 ⟨rfl, rfl⟩
 go_wp2_with fail
 go_loopw [1, 13] (fun vu vi wr => ∃ (u : Nat) (l : List UInt8) (cs : Array Value), vu = .int .u64 u ∧ vi = .int .i64 ((65 - l.length : Nat) : Int) ∧ l.length ≤ 3 ∧ u * 16 ^ l.length ≤ N ∧ (l ≠ [] → 1 ≤ u) ∧ hexD N = hexD u ++ l ∧ Row wr w.heap.size cs 204 ∧ Tail cs l ∧ Below w.heap.size w wr) (fun vu _ _ => (intOf vu).toNat)
 case atStart => exact ⟨N, [], zs, rfl, rfl, by simp, by simp, fun h => absurd rfl h, by simp, HR.out, HT.out, HB.out⟩
 case round =>
  clear HR HB HT
  obtain ⟨u, l, cs, rfl, rfl, hl, hul, hu1, hx, R, hT, hb⟩ := hrel
  have huN : u ≤ N := Nat.le_trans (Nat.le_mul_of_pos_right u (Nat.pow_pos (by decide))) hul
  have hu : u < 65536 := by omega
  have HR := Lib.hid R
  have HT := Lib.hid hT
  have HX := Lib.hid hx
  have HU := Lib.hid hul
  have HB := Lib.hid hb
  clear hul hu1 hx hb
  by_cases h16 : 16 ≤ u
  ·have h16' : (16 : Int) ≤ (u : Int) := by omega
   have ha := and15 u hu
   have hd := dig36 (u % 16) (by omega) (by rw [size36]; omega)
   have hl2 : l.length ≤ 2 := by
    have h := HU.out
    by_cases h3 : l.length = 3
    ·rw [h3] at h; have : 16 * 16 ^ 3 ≤ u * 16 ^ 3 := Nat.mul_le_mul_right _ h16; omega
    ·omega
   have hcell : ∃ v, wr.cell? ⟨w.heap.size, 65 - l.length - 1, none⟩ = some v := ⟨_, (R.cell (65 - l.length - 1)).trans (Array.getElem?_eq_getElem (by rw [hT.1]; omega))⟩
   obtain ⟨v0, c0⟩ := hcell
   have f0 := R.frozen (65 - l.length - 1)
   clear R hT
   have q1 : (((65 - l.length : Nat) : Int) - 1) = ((65 - l.length - 1 : Nat) : Int) := by omega
   have q2 : ((u % 16 : Nat) : Int) < 36 := by omega
   go_wp2
   refine ⟨⟨u / 16, hexC (u % 16) :: l, _, by go_num, by simp; omega, by simp; omega, ?_, fun _ => by omega, ?_, HR.out.set _ _, HT.out.cons _ (by omega), HB.out.setCell (Nat.le_refl _) _⟩, by simp [intOf]; omega⟩
   ·rw [List.length_cons, Nat.pow_succ, Nat.mul_comm (16 ^ l.length) 16, ← Nat.mul_assoc]
    exact Nat.le_trans (Nat.mul_le_mul_right _ (Nat.div_mul_le_self u 16)) HU.out
   ·rw [HX.out, hexD_step u h16]; simp
  ·have h16' : ¬ (16 : Int) ≤ (u : Int) := by omega
   have hd := dig36 u (by omega) (by rw [size36]; omega)
   have hcell : ∃ v, wr.cell? ⟨w.heap.size, 65 - l.length - 1, none⟩ = some v := ⟨_, (R.cell (65 - l.length - 1)).trans (Array.getElem?_eq_getElem (by rw [hT.1]; omega))⟩
   obtain ⟨v0, c0⟩ := hcell
   have f0 := R.frozen (65 - l.length - 1)
   clear R hT
   have q1 : (((65 - l.length : Nat) : Int) - 1) = ((65 - l.length - 1 : Nat) : Int) := by omega
   have R2 := HR.out.set (65 - l.length - 1) (.int .u8 ((hexC u).toNat : Int))
   have hT2 := HT.out.cons (hexC u) (by omega)
   have hB2 : Below w.heap.size w (wr.setCell ⟨w.heap.size, 65 - l.length - 1, none⟩ (.int .u8 ((hexC u).toNat : Int))) := HB.out.setCell (Nat.le_refl _) _
   have hl4 : (hexC u :: l).length = 65 - (65 - l.length - 1) := by simp; omega
   have hconv := run_convert_bytes_back (P := Tryz.prog) (wr.setCell ⟨w.heap.size, 65 - l.length - 1, none⟩ (.int .u8 ((hexC u).toNat : Int))) 118 9 5 ⟨w.heap.size, 65 - l.length - 1, none⟩ (65 - (65 - l.length - 1)) (hexC u :: l) Tryz.underlying118 Tryz.underlying5 Tryz.underlying9 (fun j hj => by
    have h3 := hT2.2.2 j hj
    rw [Addr.add_mid, R2.cell]
    rw [show 65 - l.length - 1 + j = 65 - (hexC u :: l).length + j by simp; omega]
    exact h3)
   rw [hl4] at hconv
   have hres : hexD N = hexC u :: l := by rw [HX.out, hexD_one u (by omega)]; rfl
   have HRES := Lib.hid hres
   have HB2 := Lib.hid hB2
   clear hres hB2 R2 hT2
   have hcut := cutA65 (wr.setCell ⟨w.heap.size, 65 - l.length - 1, none⟩ (.int .u8 ((hexC u).toNat : Int))) w.heap.size (65 - l.length - 1) (by omega)
   clear hl4
   go_wp2
   exact bodyPost_ret (v := .tuple #[.slice none 0 0, .string ⟨(hexC u :: l).toArray⟩]) (by simp [results, Tryz.results162, go_sem]) rfl ⟨by rw [HRES.out], HB2.out⟩
theorem ifmt16_t (N : Nat) (hN : N < 65536) (w : World) (hE : Env6 w) : Calls Tryz.prog 142 #[.int .u64 N, .int .i64 16] w fun e w' => e = .returned (.string ⟨(hexD N).toArray⟩) ∧ Below w.heap.size w w' := by
 go_enter Tryz.func142, Tryz.ntmps142
 go_wp2_with fail
 refine (bits16_t N hN w hE).mono ?_
 rintro r w1 ⟨rfl, hb⟩
 have HB := Lib.hid hb
 clear hb
 go_wp2
 go_ret
 exact ⟨rfl, HB.out⟩
theorem fmt16_t (N : Nat) (hN : N < 65536) (w : World) (hE : Env6 w) : Calls Tryz.prog 119 #[.int .u64 N, .int .i64 16] w fun e w' => e = .returned (.string ⟨(hexD N).toArray⟩) ∧ Below w.heap.size w w' := by
 go_enter Tryz.func119, Tryz.ntmps119
 go_wp2_with fail
 refine (ifmt16_t N hN w hE).mono ?_
 rintro r w1 ⟨rfl, hb⟩
 have HB := Lib.hid hb
 clear hb
 go_wp2
 go_ret
 exact ⟨rfl, HB.out⟩
def joinH (fs : List Nat) : List UInt8 := Lib.join (fs.map hexD) [58]
def StrsTo (fs : List Nat) (j : Nat) (cs : Array Value) : Prop := cs.size = fs.length ∧ ∀ m x, m < j → fs[m]? = some x → cs[m]? = some (.string ⟨(hexD x).toArray⟩)
theorem StrsTo.step {fs : List Nat} {j : Nat} {cs : Array Value} (h : StrsTo fs j cs) {x : Nat} (hx : fs[j]? = some x) : StrsTo fs (j + 1) (cs.setIfInBounds j (.string ⟨(hexD x).toArray⟩)) := by
 have hj : j < fs.length := (List.getElem?_eq_some_iff.1 hx).1
 refine ⟨by simp [h.1], fun m y hm hy => ?_⟩
 rw [Array.getElem?_setIfInBounds]
 by_cases e : j = m
 ·subst e
  rw [if_pos rfl, if_pos (by rw [h.1]; exact hj)]
  rw [hx] at hy; cases hy; rfl
 ·rw [if_neg e]; exact h.2 m y (by omega) hy
theorem hexD_len (n : Nat) (h : n < 65536) : (hexD n).length ≤ 4 := by
 have h1 : ∀ k, k < 16 → (hexD k).length ≤ 1 := fun k hk => by rw [hexD_one k hk]; simp
 have h2 : ∀ k, k < 256 → (hexD k).length ≤ 2 := fun k hk => by
  by_cases c : k < 16
  ·have := h1 k c; omega
  ·rw [hexD_step k (by omega)]; have := h1 (k / 16) (by omega); simp; omega
 have h3 : ∀ k, k < 4096 → (hexD k).length ≤ 3 := fun k hk => by
  by_cases c : k < 16
  ·have := h1 k c; omega
  ·rw [hexD_step k (by omega)]; have := h2 (k / 16) (by omega); simp; omega
 by_cases c : n < 16
 ·have := h1 n c; omega
 ·rw [hexD_step n (by omega)]; have := h3 (n / 16) (by omega); simp; omega
theorem joinTail_len : ∀ (fs : List Nat), (∀ x ∈ fs, x < 65536) → (Lib.joinTail [58] (fs.map hexD)).length ≤ 5 * fs.length
 | [], _ => by simp [Lib.joinTail]
 | x :: r, h => by
  have h1 := joinTail_len r (fun y hy => h y (List.mem_cons_of_mem _ hy))
  have h2 := hexD_len x (h x (by simp))
  unfold Lib.joinTail at h1 ⊢
  simp at h1 ⊢
  omega
theorem joinH_len (fs : List Nat) (h : ∀ x ∈ fs, x < 65536) : (joinH fs).length ≤ 5 * fs.length := by
 unfold joinH
 cases fs with
 | nil => simp [Lib.join]
 | cons x r =>
  have h1 := joinTail_len r (fun y hy => h y (List.mem_cons_of_mem _ hy))
  have h2 := hexD_len x (h x (by simp))
  rw [List.map_cons, Lib.join_cons]
  simp at h1 ⊢
  omega
theorem infoStr : (Tryz.prog.info? 9).map (fun i => (i.zero, i.size, i.bytes)) = some (some (.string ⟨#[]⟩), 1, 16) := by kernel_rfl
theorem join_t (fs : List Nat) (g o c : Nat) (hl : fs.length ≤ 8) (hf : ∀ x ∈ fs, x < 65536) (w : World) (hg : g < w.heap.size) (hE : Env6 w) (hc : ∀ (j x : Nat), fs[j]? = some x → w.cell? ⟨g, o + j, none⟩ = some (.int .u16 (x : Int))) : Calls Tryz.prog 80 #[.slice (some ⟨g, o, none⟩) fs.length c] w fun e w' => e = .returned (.string ⟨(joinH fs).toArray⟩) ∧ Below w.heap.size w w' := by
 obtain ⟨i0, hif, hz0, hz1, hz2⟩ := info_parts infoStr
 have hmk := fun w => run_make (P := Tryz.prog) w 77 9 i0 (.string ⟨#[]⟩) Tryz.underlying77 hif hz0 .i64 .i64 (fs.length : Int) (fs.length : Int) (by omega) (by omega) (by rw [hz2]; omega) (by omega)
 simp only [Int.toNat_natCast, hz1, Nat.mul_one] at hmk
 have HC := Lib.hid hc
 clear hc
 go_enter Tryz.func80, Tryz.ntmps80
 go_wp2_with fail
 have R0 := Row.new w (madeCells #[Value.string ⟨#[]⟩] fs.length) 9
 have hb0 : Below w.heap.size w (w.alloc (.cells (madeCells #[Value.string ⟨#[]⟩] fs.length) 9)) := (Below.refl _ _).alloc (Nat.le_refl _) _
 have S0 : StrsTo fs 0 (madeCells #[Value.string ⟨#[]⟩] fs.length) := ⟨size_madeCells _ _, fun m x hm => absurd hm (by omega)⟩
 clear hmk
 generalize madeCells #[Value.string ⟨#[]⟩] fs.length = cs0 at *
 generalize w.alloc (.cells cs0 9) = w0 at *
 go_loopw [11] (fun i wr => ∃ (j : Nat) (cs : Array Value), j ≤ fs.length ∧ i = .int .i64 j ∧ StrsTo fs j cs ∧ Row wr w.heap.size cs 9 ∧ Below w.heap.size w wr) (fun i _ => 8 - (intOf i).toNat)
 case atStart => exact ⟨0, cs0, by omega, rfl, S0, R0, hb0⟩
 case round =>
  clear R0 hb0 S0
  obtain ⟨j, cs, hj, rfl, hS, R, hb⟩ := hrel
  have HS := Lib.hid hS
  have HR := Lib.hid R
  have HB := Lib.hid hb
  clear hS R hb
  by_cases hlt : j < fs.length
  ·have hx : fs[j]? = some fs[j] := List.getElem?_eq_getElem hlt
   have hxr := hf _ (List.getElem_mem hlt)
   generalize fs[j] = x at hx hxr
   have cc := cell_later HB.out (HC.out j x hx)
   have hlb : decide ((j : Int) < (fs.length : Int)) = true := by simp; omega
   have hlt' : (j : Int) < (fs.length : Int) := by omega
   go_wp2_with fail
   refine (fmt16_t x hxr wr (hE.later HB.out)).mono ?_
   rintro r w2 ⟨rfl, hb2⟩
   have R2 := HR.out.later hb2
   have hcl : ∃ v, w2.cell? ⟨w.heap.size, j, none⟩ = some v := ⟨_, (R2.cell j).trans (Array.getElem?_eq_getElem (by rw [HS.out.1]; exact hlt))⟩
   obtain ⟨v0, c0⟩ := hcl
   have f0 := R2.frozen j
   have HR2 := Lib.hid R2
   have HB2 := Lib.hid (below_step HB.out hb2)
   clear R2 HR HB hb2 cc
   go_wp2
   exact ⟨⟨j + 1, _, by omega, by go_num, HS.out.step hx, HR2.out.set j _, HB2.out.setCell (Nat.le_refl _) _⟩, by simp [intOf]; omega⟩
  ·have hjn : j = fs.length := by omega
   subst hjn
   have hlt := HR.out.lt
   have hjl := joinH_len fs hf
   have hjn := Tryz.strings_Join w.heap.size 0 fs.length (fs.map fun x => ⟨(hexD x).toArray⟩) ⟨#[58]⟩ wr (fun j x hx => by
    rw [List.getElem?_map] at hx
    cases hq : fs[j]? with
    | none => rw [hq] at hx; cases hx
    | some y =>
     rw [hq] at hx
     cases hx
     rw [Nat.zero_add]
     exact (HR.out.cell j).trans (HS.out.2 j y (List.getElem?_eq_some_iff.1 hq).1 hq)) hlt (by simp; omega) (by simp) (by
    simp only [List.map_map, Function.comp_def]
    show (joinH fs).length ≤ _
    omega)
   rw [List.length_map] at hjn
   simp only [List.map_map, Function.comp_def] at hjn
   have HJ := Lib.hid hjn
   clear hjn
   go_wp2_with fail
   refine HJ.out.mono ?_
   rintro r w3 ⟨rfl, hb3⟩
   have hb4 := below_step HB.out hb3
   go_wp2
   go_ret
   exact ⟨rfl, hb4⟩
def cutP (l : List UInt8) : List UInt8 := (Lib.cut l [46]).1
def cutA (l : List UInt8) : List UInt8 := (Lib.cut l [46]).2.1
def numP (l : List UInt8) : Option Nat := match Lib.parseUintB 8 (cutP l) with | .ok u => some u | _ => none
def restL (l : List UInt8) : Nat → List UInt8
 | 0 => l
 | j + 1 => cutA (restL l j)
def uI (l : List UInt8) (i : Nat) : Int := ((numP (restL l i)).getD 0 : Nat)
def adr (l : List UInt8) : Int := part4 (uI l 0) (uI l 1) (uI l 2) (uI l 3) 4
def all4 (l : List UInt8) : Prop := ∀ i, i < 4 → (numP (restL l i)).isSome = true
open Classical in
noncomputable def parse4 (l : List UInt8) : Int × Int := if all4 l ∧ print4 (adr l) = l then (adr l, 0) else (0, 3)
theorem cut_len (l : List UInt8) : (cutP l).length ≤ l.length ∧ (cutA l).length ≤ l.length := by
 unfold cutP cutA Lib.cut
 split
 ·simp; omega
 ·simp
theorem rest_len (l : List UInt8) : ∀ j, (restL l j).length ≤ l.length
 | 0 => Nat.le_refl _
 | j + 1 => Nat.le_trans (cut_len _).2 (rest_len l j)
theorem uintM_le (M : Nat) : ∀ (l : List UInt8) (acc u : Nat), acc ≤ M → Lib.parseUintM M acc l = .ok u → u ≤ M
 | [], acc, u, h, e => by simp [Lib.parseUintM] at e; omega
 | c :: r, acc, u, h, e => by
  unfold Lib.parseUintM at e
  split at e
  ·split at e
   ·cases e
   ·split at e
    ·cases e
    ·exact uintM_le M r _ u (by omega) e
  ·cases e
theorem numP_le {l : List UInt8} {u : Nat} (h : numP l = some u) : u ≤ 255 := by
 unfold numP at h
 split at h
 ·rename_i v hv
  cases h
  unfold Lib.parseUintB at hv
  split at hv
  ·cases hv
  ·exact uintM_le _ _ _ _ (by decide) hv
 ·cases h
theorem uI_range (l : List UInt8) (i : Nat) : 0 ≤ uI l i ∧ uI l i ≤ 255 := by
 unfold uI
 cases h : numP (restL l i) with
 | none => simp
 | some u => have := numP_le h; simp; omega
theorem adr_range (l : List UInt8) : 0 ≤ adr l ∧ adr l ≤ 4294967295 := by
 have h0 := uI_range l 0
 have h1 := uI_range l 1
 have h2 := uI_range l 2
 have h3 := uI_range l 3
 unfold adr
 simp only [part4]
 omega
theorem bs_data (l : List UInt8) : (⟨l.toArray⟩ : ByteArray).data.toList = l := by simp
theorem bs_size4 (l : List UInt8) : (⟨l.toArray⟩ : ByteArray).size = l.length := by simp [ByteArray.size]
theorem cut_t (l : List UInt8) (hl : l.length ≤ 4000000000) (w : World) (hE : Env w) : Calls Tryz.prog 21 #[.string ⟨l.toArray⟩, .string ⟨#[46]⟩] w fun e w' => (∃ b, e = .returned (.tuple #[.string ⟨(cutP l).toArray⟩, .string ⟨(cutA l).toArray⟩, .bool b])) ∧ Below w.heap.size w w' := by
 obtain ⟨m, hm⟩ := hE.m
 refine (Tryz.strings_Cut ⟨l.toArray⟩ ⟨#[46]⟩ m w (by rw [bs_size4]; omega) hm).mono ?_
 rintro e w' ⟨rfl, n, rfl⟩
 exact ⟨⟨_, rfl⟩, below_drewN (Below.refl _ _) n⟩
def NumPost (l : List UInt8) (w : World) (e : Ending) (w' : World) : Prop :=
 (match numP l with
  | some u => e = .returned (.tuple #[.int .u64 u, .nilIface])
  | none => ∃ u t p, e = .returned (.tuple #[.int .u64 u, .iface t p])) ∧ Below w.heap.size w w'
theorem num_p (l : List UInt8) (hl : l.length ≤ 4000000000) (w : World) (hE : Env w) : Calls Tryz.prog 96 #[.string ⟨(cutP l).toArray⟩, .int .i64 10, .int .i64 8] w (NumPost l w) := by
 have hsz : (⟨(cutP l).toArray⟩ : ByteArray).size ≤ 4000000000 := by rw [bs_size4]; have := (cut_len l).1; omega
 unfold NumPost numP
 cases h : Lib.parseUintB 8 (cutP l) with
 | ok u =>
  refine (Tryz.strconv_ParseUint_10_at8_ok ⟨(cutP l).toArray⟩ (by omega) u (by rw [bs_data]; exact h) w).mono ?_
  rintro e w' ⟨rfl, rfl | rfl⟩
  ·exact ⟨rfl, Below.refl _ _⟩
  ·exact ⟨rfl, Joins.below_bytesWorld _ w _ _ (Nat.le_refl _)⟩
 | «syntax» =>
  obtain ⟨tp, p, hv⟩ := hE.s
  refine (Tryz.strconv_ParseUint_10_at8_syntax_var ⟨(cutP l).toArray⟩ (by omega) (by rw [bs_data]; exact h) tp p w hv).mono ?_
  rintro e w' ⟨N, rfl, _, _, hb⟩
  exact ⟨⟨_, _, _, rfl⟩, hb⟩
 | range =>
  obtain ⟨tp, p, hv⟩ := hE.r
  refine (Tryz.strconv_ParseUint_10_at8_range_var ⟨(cutP l).toArray⟩ (by omega) (by rw [bs_data]; exact h) tp p w hv).mono ?_
  rintro e w' ⟨N, rfl, _, _, hb⟩
  exact ⟨⟨_, _, _, rfl⟩, hb⟩
theorem parse4_t (l : List UInt8) (hl : l.length ≤ 4000000000) (w : World) (hE : Env w) : Calls Tryz.prog 54 #[.string ⟨l.toArray⟩] w fun e w' => e = .returned (.tuple #[.int .u32 (parse4 l).1, .int .i64 (parse4 l).2]) ∧ Below w.heap.size w w' := by
 go_enter Tryz.func54, Tryz.ntmps54
 go_wp2_with fail
 have Z1 := Row.new w (cells4 (uI l) 0) 104
 have hb0 : Below w.heap.size w (w.alloc (.cells #[.int .u8 0, .int .u8 0, .int .u8 0, .int .u8 0] 104)) := (by repeat (first | exact Below.refl _ _ | assumption | (with_reducible refine Below.drew ?_) | ((with_reducible first | refine Below.setCell ?_ ?h _ | refine Below.alloc ?_ ?h _ | refine Below.trans ?_ (hb3.mono ?h) | refine Below.trans ?_ (hb2.mono ?h) | refine Below.trans ?_ (hb.mono ?h) | refine Below.trans ?_ (hb0.mono ?h)); case h => first | omega | (simp; done) | (simp; omega))))
 go_loopw [5, 14] (fun r i wr => ∃ (j : Nat), j ≤ 4 ∧ i = .int .i64 j ∧ r = .string ⟨(restL l j).toArray⟩ ∧ (∀ k, k < j → (numP (restL l k)).isSome = true) ∧ Row wr w.heap.size (cells4 (uI l) j) 104 ∧ Below w.heap.size w wr) (fun _ i _ => 4 - (intOf i).toNat)
 case atStart => exact ⟨0, by omega, rfl, rfl, fun k h => absurd h (by omega), Z1, hb0⟩
 case round =>
  clear Z1 hb0
  obtain ⟨j, hj, rfl, rfl, hall, R, hb⟩ := hrel
  have HR := Lib.hid R
  have HB := Lib.hid hb
  have HA := Lib.hid hall
  clear R hb hall
  by_cases hlt : j < 4
  ·have hlb : decide ((j : Int) < 4) = true := by simp; omega
   have hrl := Nat.le_trans (rest_len l j) hl
   go_wp2_with fail
   refine (cut_t (restL l j) hrl wr (hE.later HB.out)).mono ?_
   rintro r w2 ⟨⟨bb, rfl⟩, hb2⟩
   have HR2 := Lib.hid (HR.out.later hb2)
   have HB2 := Lib.hid (below_step HB.out hb2)
   clear HR HB hb2
   go_wp2_with fail
   refine (num_p (restL l j) hrl w2 (hE.later HB2.out)).mono ?_
   rintro r w3 ⟨hr, hb3⟩
   have R3 := HR2.out.later hb3
   have c0 := (R3.cell j).trans (cells4_get (uI l) j j hlt)
   have f0 := R3.frozen j
   have HR3 := Lib.hid R3
   have HB3 := Lib.hid (below_step HB2.out hb3)
   clear HR2 HB2 hb3 R3
   cases hq : numP (restL l j) with
   | some u =>
    rw [hq] at hr
    dsimp only at hr
    subst hr
    have hu := numP_le hq
    have hui : uI l j = u := by unfold uI; rw [hq]; rfl
    go_wp2
    refine ⟨⟨j + 1, by omega, by go_num, rfl, fun k hk => ?_, ?_, HB3.out.setCell (Nat.le_refl _) _⟩, by simp [intOf]; omega⟩
    ·by_cases e : k < j
     ·exact HA.out k e
     ·obtain rfl : k = j := by omega
      rw [hq]; rfl
    ·have := HR3.out.set j (.int .u8 (uI l j))
     rw [cells4_set (uI l) j hlt, hui] at this
     exact this
   | none =>
    rw [hq] at hr
    obtain ⟨u, t, p, rfl⟩ := hr
    have hp4 : parse4 l = (0, 3) := by unfold parse4; rw [if_neg]; intro h; have := h.1 j hlt; rw [hq] at this; cases this
    go_wp2
    exact bodyPost_ret (v := .tuple #[.int .u32 0, .int .i64 3]) (by simp [results, Tryz.results54, go_sem]) rfl ⟨by rw [hp4], HB3.out⟩
  ·have hj4 : j = 4 := by omega
   subst hj4
   have R' : Row wr w.heap.size #[.int .u8 (uI l 0), .int .u8 (uI l 1), .int .u8 (uI l 2), .int .u8 (uI l 3)] 104 := HR.out
   have c0 := (R'.cell 0).trans (show _ = some (Value.int .u8 (uI l 0)) from rfl)
   have c1 := (R'.cell 1).trans (show _ = some (Value.int .u8 (uI l 1)) from rfl)
   have c2 := (R'.cell 2).trans (show _ = some (Value.int .u8 (uI l 2)) from rfl)
   have c3 := (R'.cell 3).trans (show _ = some (Value.int .u8 (uI l 3)) from rfl)
   have hA4 : all4 l := HA.out
   have har := adr_range l
   clear R' HR
   go_wp2_with fail
   refine (of4_t _ _ _ _ (uI_range l 0) (uI_range l 1) (uI_range l 2) (uI_range l 3) wr).mono ?_
   rintro r w2 ⟨rfl, hb2⟩
   rw [show part4 (uI l 0) (uI l 1) (uI l 2) (uI l 3) 4 = adr l from rfl]
   have HB2 := Lib.hid (below_step HB.out hb2)
   clear HB hb2 c0 c1 c2 c3
   go_wp2_with fail
   refine (print4_t (adr l) har.1 har.2 w2 (hE.later HB2.out)).mono ?_
   rintro r w3 ⟨rfl, hb3⟩
   have HB3 := Lib.hid (below_step HB2.out hb3)
   clear HB2 hb3
   by_cases hpr : print4 (adr l) = l
   ·have hp4 : parse4 l = (adr l, 0) := by unfold parse4; rw [if_pos ⟨hA4, hpr⟩]
    rw [hpr]
    go_wp2
    exact bodyPost_ret (v := .tuple #[.int .u32 (adr l), .int .i64 0]) (by simp [results, Tryz.results54, go_sem]) rfl ⟨by rw [hp4], HB3.out⟩
   ·have hp4 : parse4 l = (0, 3) := by unfold parse4; rw [if_neg (fun h => hpr h.2)]
    have hne : ¬ (⟨(print4 (adr l)).toArray⟩ : ByteArray) = ⟨l.toArray⟩ := fun h => hpr (by have := congrArg (fun b : ByteArray => b.data.toList) h; simpa using this)
    generalize print4 (adr l) = pl at *
    have hbq : (pl == l) = false := by simpa using hpr
    have hbr : (!pl == l) = true := by rw [hbq]; rfl
    go_wp2
    exact bodyPost_ret (v := .tuple #[.int .u32 0, .int .i64 3]) (by simp [results, Tryz.results54, go_sem]) rfl ⟨by rw [hp4], HB3.out⟩
theorem index_dot : ∀ (d r : List UInt8), (46 : UInt8) ∉ d → Lib.index (d ++ 46 :: r) [46] = d.length
 | [], r, _ => by simp [Lib.index, List.isPrefixOf]
 | c :: d, r, h => by
  have hc : ¬ (46 : UInt8) = c := fun e => h (by rw [e]; simp)
  have ih := index_dot d r (fun hm => h (List.mem_cons_of_mem _ hm))
  rw [List.cons_append, Lib.index, ih]
  have h1 : ([46] : List UInt8).isPrefixOf (c :: (d ++ 46 :: r)) = false := by simp [List.isPrefixOf, hc]
  have h2 : (((d.length : Nat) : Int) == -1) = false := by rw [beq_eq_false_iff_ne]; omega
  rw [h1, h2]
  simp
theorem index_nodot : ∀ (d : List UInt8), (46 : UInt8) ∉ d → Lib.index d [46] = -1
 | [], _ => rfl
 | c :: d, h => by
  have hc : ¬ (46 : UInt8) = c := fun e => h (by rw [e]; simp)
  have ih := index_nodot d (fun hm => h (List.mem_cons_of_mem _ hm))
  rw [Lib.index, ih]
  have h1 : ([46] : List UInt8).isPrefixOf (c :: d) = false := by simp [List.isPrefixOf, hc]
  rw [h1]
  simp
theorem cut_dot (d r : List UInt8) (h : (46 : UInt8) ∉ d) : cutP (d ++ 46 :: r) = d ∧ cutA (d ++ 46 :: r) = r := by
 unfold cutP cutA Lib.cut
 rw [index_dot d r h, if_pos (by omega)]
 simp
theorem cut_nodot (d : List UInt8) (h : (46 : UInt8) ∉ d) : cutP d = d := by
 unfold cutP Lib.cut
 rw [index_nodot d h, if_neg (by omega)]
def B4 (b : Int) : Prop := 0 ≤ b ∧ b ≤ 255
theorem dec_all4 : ∀ n : Fin 256, (46 : UInt8) ∉ Lib.decDigits n ∧ Lib.parseUintB 8 (Lib.decDigits n) = .ok (n : Nat) := by decide +kernel
theorem dec_byte {b : Int} (h : B4 b) : (46 : UInt8) ∉ Lib.decDigits b.toNat ∧ Lib.parseUintB 8 (Lib.decDigits b.toNat) = .ok b.toNat :=
 dec_all4 ⟨b.toNat, by unfold B4 at h; omega⟩
theorem txt4_is (b0 b1 b2 b3 : Int) : txt4 b0 b1 b2 b3 = Lib.decDigits b0.toNat ++ 46 :: (Lib.decDigits b1.toNat ++ 46 :: (Lib.decDigits b2.toNat ++ 46 :: Lib.decDigits b3.toNat)) := by
 unfold txt4
 simp [Lib.join_cons, Lib.joinTail]
theorem byteI_part (b0 b1 b2 b3 : Int) (h0 : B4 b0) (h1 : B4 b1) (h2 : B4 b2) (h3 : B4 b3) : byteI (part4 b0 b1 b2 b3 4) 0 = b0 ∧ byteI (part4 b0 b1 b2 b3 4) 1 = b1 ∧ byteI (part4 b0 b1 b2 b3 4) 2 = b2 ∧ byteI (part4 b0 b1 b2 b3 4) 3 = b3 := by
 unfold B4 at *
 simp only [part4, byteI]
 simp
 omega
theorem parse_txt (b0 b1 b2 b3 : Int) (h0 : B4 b0) (h1 : B4 b1) (h2 : B4 b2) (h3 : B4 b3) : parse4 (txt4 b0 b1 b2 b3) = (part4 b0 b1 b2 b3 4, 0) := by
 obtain ⟨n0, p0⟩ := dec_byte h0
 obtain ⟨n1, p1⟩ := dec_byte h1
 obtain ⟨n2, p2⟩ := dec_byte h2
 obtain ⟨n3, p3⟩ := dec_byte h3
 have e := txt4_is b0 b1 b2 b3
 have c0 := cut_dot _ (Lib.decDigits b1.toNat ++ 46 :: (Lib.decDigits b2.toNat ++ 46 :: Lib.decDigits b3.toNat)) n0
 have c1 := cut_dot _ (Lib.decDigits b2.toNat ++ 46 :: Lib.decDigits b3.toNat) n1
 have c2 := cut_dot _ (Lib.decDigits b3.toNat) n2
 have c3 := cut_nodot _ n3
 rw [← e] at c0
 have r1 : restL (txt4 b0 b1 b2 b3) 1 = Lib.decDigits b1.toNat ++ 46 :: (Lib.decDigits b2.toNat ++ 46 :: Lib.decDigits b3.toNat) := c0.2
 have r2 : restL (txt4 b0 b1 b2 b3) 2 = Lib.decDigits b2.toNat ++ 46 :: Lib.decDigits b3.toNat := by show cutA (restL _ 1) = _; rw [r1]; exact c1.2
 have r3 : restL (txt4 b0 b1 b2 b3) 3 = Lib.decDigits b3.toNat := by show cutA (restL _ 2) = _; rw [r2]; exact c2.2
 have q0 : numP (restL (txt4 b0 b1 b2 b3) 0) = some b0.toNat := by show numP (txt4 b0 b1 b2 b3) = _; unfold numP; rw [c0.1, p0]
 have q1 : numP (restL (txt4 b0 b1 b2 b3) 1) = some b1.toNat := by rw [r1]; unfold numP; rw [c1.1, p1]
 have q2 : numP (restL (txt4 b0 b1 b2 b3) 2) = some b2.toNat := by rw [r2]; unfold numP; rw [c2.1, p2]
 have q3 : numP (restL (txt4 b0 b1 b2 b3) 3) = some b3.toNat := by rw [r3]; unfold numP; rw [c3, p3]
 have u0 : uI (txt4 b0 b1 b2 b3) 0 = b0 := by unfold uI; rw [q0]; unfold B4 at h0; simp; omega
 have u1 : uI (txt4 b0 b1 b2 b3) 1 = b1 := by unfold uI; rw [q1]; unfold B4 at h1; simp; omega
 have u2 : uI (txt4 b0 b1 b2 b3) 2 = b2 := by unfold uI; rw [q2]; unfold B4 at h2; simp; omega
 have u3 : uI (txt4 b0 b1 b2 b3) 3 = b3 := by unfold uI; rw [q3]; unfold B4 at h3; simp; omega
 have ha : adr (txt4 b0 b1 b2 b3) = part4 b0 b1 b2 b3 4 := by unfold adr; rw [u0, u1, u2, u3]
 obtain ⟨y0, y1, y2, y3⟩ := byteI_part b0 b1 b2 b3 h0 h1 h2 h3
 have hp : print4 (part4 b0 b1 b2 b3 4) = txt4 b0 b1 b2 b3 := by unfold print4; rw [y0, y1, y2, y3]
 have hall : all4 (txt4 b0 b1 b2 b3) := by
  intro i hi
  rcases i with _ | _ | _ | _ | i
  ·rw [q0]; rfl
  ·rw [q1]; rfl
  ·rw [q2]; rfl
  ·rw [q3]; rfl
  ·omega
 unfold parse4
 rw [ha, if_pos ⟨hall, hp⟩]
theorem parse_print (a : Int) (a0 : 0 ≤ a) (a1 : a ≤ 4294967295) : parse4 (print4 a) = (a, 0) := by
 have h := parse_txt (byteI a 0) (byteI a 1) (byteI a 2) (byteI a 3) (byteI_range a 0) (byteI_range a 1) (byteI_range a 2) (byteI_range a 3)
 rw [part4_bytes a a0 a1] at h
 exact h
theorem parse_ok {l : List UInt8} (h : (parse4 l).2 = 0) : print4 (parse4 l).1 = l ∧ 0 ≤ (parse4 l).1 ∧ (parse4 l).1 ≤ 4294967295 := by
 have har := adr_range l
 by_cases hc : all4 l ∧ print4 (adr l) = l
 ·have e : parse4 l = (adr l, 0) := by unfold parse4; rw [if_pos hc]
  rw [e]; exact ⟨hc.2, har⟩
 ·have e : parse4 l = (0, 3) := by unfold parse4; rw [if_neg hc]
  rw [e] at h; cases h
theorem parse_range (l : List UInt8) : 0 ≤ (parse4 l).1 ∧ (parse4 l).1 ≤ 4294967295 := by
 have har := adr_range l
 unfold parse4
 split
 ·exact har
 ·exact ⟨by decide, by decide⟩
theorem parse_err (l : List UInt8) : (parse4 l).2 = 0 ∨ (parse4 l).2 = 3 := by
 unfold parse4
 split
 ·exact .inl rfl
 ·exact .inr rfl
def hexV (c : UInt8) : Option Nat := if 48 ≤ c.toNat ∧ c.toNat ≤ 57 then some (c.toNat - 48) else if 97 ≤ c.toNat ∧ c.toNat ≤ 102 then some (c.toNat - 87) else if 65 ≤ c.toNat ∧ c.toNat ≤ 70 then some (c.toNat - 55) else none
def hexM : Nat → List UInt8 → Option Nat
 | acc, [] => some acc
 | acc, c :: r => match hexV c with
  | none => none
  | some d => if 65535 < acc * 16 + d then none else hexM (acc * 16 + d) r
def hexP (l : List UInt8) : Option Nat := if l = [] then none else hexM 0 l
def grpV (l : List UInt8) : Option Nat := if 4 < l.length then none else hexP l
def splitC : List UInt8 → List (List UInt8)
 | [] => [[]]
 | c :: r => if c = 58 then [] :: splitC r else match splitC r with
  | h :: t => (c :: h) :: t
  | [] => [[c]]
noncomputable def lastV (d : Bool) (p : List UInt8) : Option (List Nat) := if d = true ∧ (parse4 p).2 = 0 then some [(parse4 p).1.toNat / 65536, (parse4 p).1.toNat % 65536] else (grpV p).map fun v => [v]
noncomputable def seqV (d : Bool) : List (List UInt8) → Option (List Nat)
 | [] => some []
 | [p] => lastV d p
 | p :: q :: r => match grpV p, seqV d (q :: r) with
  | some v, some vs => some (v :: vs)
  | _, _ => none
noncomputable def readV (d : Bool) (l : List UInt8) : Option (List Nat) := if l = [] then some [] else seqV d (splitC l)
def cc (l : List UInt8) : List UInt8 × List UInt8 × Bool := Lib.cut l [58, 58]
def fits (c : Bool) (u v : List Nat) : Bool := if c = true then decide (u.length + v.length ≤ 7) else decide (u.length = 8)
noncomputable def parse6 (l : List UInt8) : Option (List Nat) :=
 match readV (!(cc l).2.2) (cc l).1, readV true (cc l).2.1 with
 | some u, some v => if fits (cc l).2.2 u v = true then some (u ++ List.replicate (8 - u.length - v.length) 0 ++ v) else none
 | _, _ => none
/-! texts between colons -/
theorem index_word (s : List UInt8) (b : UInt8) (hs : s.head? = some b) : ∀ (p r : List UInt8), b ∉ p → Lib.index (p ++ r) s = if Lib.index r s = -1 then -1 else Lib.index r s + p.length
 | [], r, _ => by
  rw [List.nil_append]
  split
  ·assumption
  ·simp
 | c :: p, r, h => by
  have hc : ¬ b = c := fun e => h (by rw [e]; simp)
  have ih := index_word s b hs p r (fun hm => h (List.mem_cons_of_mem _ hm))
  obtain ⟨t, rfl⟩ : ∃ t, s = b :: t := by cases s with | nil => cases hs | cons x t => cases hs; exact ⟨t, rfl⟩
  rw [List.cons_append, Lib.index, ih]
  have h1 : (b :: t).isPrefixOf (c :: (p ++ r)) = false := by simp [List.isPrefixOf, hc]
  have hge := Lib.index_ge r (b :: t)
  rw [h1]
  by_cases h2 : Lib.index r (b :: t) = -1
  ·simp [h2]
  ·have h3 : ((Lib.index r (b :: t) + (p.length : Int)) == -1) = false := by rw [beq_eq_false_iff_ne]; omega
   simp only [if_neg h2, h3]
   simp
   omega
theorem cut_at (b : UInt8) (d r : List UInt8) (h : b ∉ d) : Lib.cut (d ++ b :: r) [b] = (d, r, true) := by
 unfold Lib.cut
 have h0 : Lib.index (b :: r) [b] = 0 := by simp [Lib.index, List.isPrefixOf]
 rw [index_word [b] b rfl d (b :: r) h, h0]
 simp
theorem cut_none (b : UInt8) (d : List UInt8) (h : b ∉ d) : Lib.cut d [b] = (d, [], false) := by
 unfold Lib.cut
 have h1 := index_word [b] b rfl d [] h
 rw [List.append_nil] at h1
 rw [h1]
 simp [Lib.index]
theorem split_no : ∀ (p : List UInt8), (58 : UInt8) ∉ p → splitC p = [p]
 | [], _ => rfl
 | c :: p, h => by
  have hc : ¬ c = 58 := fun e => h (by rw [e]; simp)
  rw [splitC, if_neg hc, split_no p (fun hm => h (List.mem_cons_of_mem _ hm))]
theorem split_at : ∀ (p r : List UInt8), (58 : UInt8) ∉ p → splitC (p ++ 58 :: r) = p :: splitC r
 | [], r, _ => by rw [List.nil_append, splitC, if_pos rfl]
 | c :: p, r, h => by
  have hc : ¬ c = 58 := fun e => h (by rw [e]; simp)
  rw [List.cons_append, splitC, if_neg hc, split_at p r (fun hm => h (List.mem_cons_of_mem _ hm))]
theorem split_ne (l : List UInt8) : splitC l ≠ [] := by
 cases l with
 | nil => simp [splitC]
 | cons c r =>
  rw [splitC]
  split
  ·simp
  ·split <;> simp
theorem split_cut (l : List UInt8) : (∃ p r, (58 : UInt8) ∉ p ∧ l = p ++ 58 :: r ∧ Lib.cut l [58] = (p, r, true) ∧ splitC l = p :: splitC r) ∨ ((58 : UInt8) ∉ l ∧ Lib.cut l [58] = (l, [], false) ∧ splitC l = [l]) := by
 by_cases h : (58 : UInt8) ∈ l
 ·obtain ⟨p, r, rfl, hp⟩ := List.eq_append_cons_of_mem h
  exact Or.inl ⟨p, r, hp, rfl, cut_at 58 p r hp, split_at p r hp⟩
 ·exact Or.inr ⟨h, cut_none 58 l h, split_no l h⟩
theorem hexV_lt {c : UInt8} {d : Nat} (h : hexV c = some d) : d < 16 := by
 unfold hexV at h
 split at h
 ·cases h; omega
 ·split at h
  ·cases h; omega
  ·split at h
   ·cases h; omega
   ·cases h
theorem hexM_lt : ∀ (l : List UInt8) (acc v : Nat), acc ≤ 65535 → hexM acc l = some v → v ≤ 65535
 | [], acc, v, h, e => by cases e; exact h
 | c :: r, acc, v, h, e => by
  rw [hexM] at e
  split at e
  ·cases e
  ·split at e
   ·cases e
   ·exact hexM_lt r _ v (by omega) e
theorem grpV_lt {l : List UInt8} {v : Nat} (h : grpV l = some v) : v ≤ 65535 := by
 unfold grpV hexP at h
 split at h
 ·cases h
 ·split at h
  ·cases h
  ·exact hexM_lt _ _ _ (by omega) h
theorem lastV_lt {d : Bool} {p : List UInt8} {vs : List Nat} (h : lastV d p = some vs) : ∀ v ∈ vs, v ≤ 65535 := by
 unfold lastV at h
 split at h
 ·cases h
  have hr := parse_range p
  intro v hv
  simp at hv
  omega
 ·cases hg : grpV p with
  | none => rw [hg] at h; cases h
  | some x =>
   rw [hg] at h
   cases h
   intro v hv
   simp at hv
   subst hv
   exact grpV_lt hg
theorem seqV_lt (d : Bool) : ∀ (ps : List (List UInt8)) (vs : List Nat), seqV d ps = some vs → ∀ v ∈ vs, v ≤ 65535
 | [], vs, h => by cases h; intro v hv; cases hv
 | [p], vs, h => lastV_lt h
 | p :: q :: r, vs, h => by
  rw [seqV] at h
  split at h
  ·rename_i v us h1 h2
   cases h
   intro x hx
   rcases List.mem_cons.1 hx with rfl | hx
   ·exact grpV_lt h1
   ·exact seqV_lt d (q :: r) us h2 x hx
  ·cases h
theorem readV_lt {d : Bool} {l : List UInt8} {vs : List Nat} (h : readV d l = some vs) : ∀ v ∈ vs, v ≤ 65535 := by
 unfold readV at h
 split at h
 ·cases h; intro v hv; cases hv
 ·exact seqV_lt d _ _ h
theorem low_all : ∀ c : Fin 256, ((65 ≤ (c : Nat) ∧ (c : Nat) ≤ 70) → bits .or .u8 ((c : Nat) : Int) 32 = (c : Nat) + 32) ∧ ((97 ≤ (c : Nat) ∧ (c : Nat) ≤ 102) → bits .or .u8 ((c : Nat) : Int) 32 = (c : Nat)) ∧ (¬ (48 ≤ (c : Nat) ∧ (c : Nat) ≤ 57) → ¬ (97 ≤ (c : Nat) ∧ (c : Nat) ≤ 102) → ¬ (65 ≤ (c : Nat) ∧ (c : Nat) ≤ 70) → (bits .or .u8 ((c : Nat) : Int) 32 < 97 ∨ 103 ≤ bits .or .u8 ((c : Nat) : Int) 32)) := by decide +kernel
theorem hexV_cases (c : UInt8) : (48 ≤ c.toNat ∧ c.toNat ≤ 57 ∧ hexV c = some (c.toNat - 48)) ∨ (97 ≤ c.toNat ∧ c.toNat ≤ 102 ∧ bits .or .u8 (c.toNat : Int) 32 = c.toNat ∧ hexV c = some (c.toNat - 87)) ∨ (65 ≤ c.toNat ∧ c.toNat ≤ 70 ∧ bits .or .u8 (c.toNat : Int) 32 = c.toNat + 32 ∧ hexV c = some (c.toNat - 55)) ∨ (¬ (48 ≤ c.toNat ∧ c.toNat ≤ 57) ∧ (bits .or .u8 (c.toNat : Int) 32 < 97 ∨ 103 ≤ bits .or .u8 (c.toNat : Int) 32) ∧ hexV c = none) := by
 obtain ⟨h1, h2, h3⟩ := low_all ⟨c.toNat, c.toNat_lt⟩
 dsimp only at h1 h2 h3
 unfold hexV
 by_cases c1 : 48 ≤ c.toNat ∧ c.toNat ≤ 57
 ·exact Or.inl ⟨c1.1, c1.2, by rw [if_pos c1]⟩
 ·by_cases c2 : 97 ≤ c.toNat ∧ c.toNat ≤ 102
  ·exact Or.inr (Or.inl ⟨c2.1, c2.2, h2 c2, by rw [if_neg c1, if_pos c2]⟩)
  ·by_cases c3 : 65 ≤ c.toNat ∧ c.toNat ≤ 70
   ·exact Or.inr (Or.inr (Or.inl ⟨c3.1, c3.2, h1 c3, by rw [if_neg c1, if_neg c2, if_pos c3]⟩))
   ·exact Or.inr (Or.inr (Or.inr ⟨c1, h3 c1 c2 c3, by rw [if_neg c1, if_neg c2, if_neg c3]⟩))
def HexPost (o : Option Nat) (e : Ending) : Prop := match o with
 | some v => e = .returned (.tuple #[.int .u64 v, .nilIface])
 | none => ∃ (u k : Int), (k = 1 ∨ k = 2) ∧ e = .returned (.tuple #[.int .u64 u, .iface 187 (.int .i64 k)])
theorem hexM_ok {acc d : Nat} {c : UInt8} (r : List UInt8) (h : hexV c = some d) (h1 : ¬ 65535 < acc * 16 + d) : hexM acc (c :: r) = hexM (acc * 16 + d) r := by rw [hexM, h]; simp only [if_neg h1]
theorem hexM_over {acc d : Nat} {c : UInt8} (r : List UInt8) (h : hexV c = some d) (h1 : 65535 < acc * 16 + d) : hexM acc (c :: r) = none := by rw [hexM, h]; simp only [if_pos h1]
theorem hexM_no {acc : Nat} {c : UInt8} (r : List UInt8) (h : hexV c = none) : hexM acc (c :: r) = none := by rw [hexM, h]
theorem ipu16_t (t : ByteArray) (hne : t.size ≠ 0) (hmax : t.size ≤ 9223372036854775806) (w : World) :
  Calls Tryz.prog 131 #[.string t, .int .i64 16, .int .i64 16] w fun e w' => HexPost (hexM 0 t.data.toList) e ∧ w' = Lib.bytesWorld w 5 t := by
 have hemp : t.toList.isEmpty = false := by
  rw [← decide_eq_emptyBytes]
  exact decide_eq_false (fun h => hne (by rw [h]; rfl))
 have hcv := Lib.run_convert_string_bytes (P := Tryz.prog) w 9 118 5 t (u := .string) Tryz.underlying9 Tryz.underlying118 Tryz.underlying5
 have hB : ∀ j, j < t.size → (Lib.bytesWorld w 5 t).cell? ⟨w.heap.size, j, none⟩ = some (.int .u8 (t.data.toList.getD j 0).toNat) := fun j hj => Lib.bytesWorld_cell w 5 t j hj
 obtain ⟨W1, hW1⟩ : ∃ W1, W1 = Lib.bytesWorld w 5 t := ⟨_, rfl⟩
 rw [← hW1] at hcv hB ⊢
 clear hW1
 obtain ⟨bs, hL⟩ : ∃ bs, bs = t.data.toList := ⟨_, rfl⟩
 have hLn : bs.length = t.size := by rw [hL, Lib.size_eq]
 rw [← hL] at hB ⊢
 clear hL
 have hmv : IntKind.u64.wrap (IntKind.u64.wrap 65536 - 1) = 65535 := by
  rw [IntKind.wrap_u64, IntKind.wrap_u64]
  decide
 go_enter Tryz.func131, Tryz.ntmps131
 go_wp2
 go_loop [12, 13, 101] (fun vu vn vi => ∃ (k acc : Nat) (a : Int), vu = .bool false ∧ vn = .int .u64 a ∧ vi = .int .i64 k ∧ k ≤ t.size ∧ Hid (a = (acc : Int) ∧ acc ≤ 65535 ∧ hexM 0 bs = hexM acc (bs.drop k)))
  (fun _ _ vi => t.size - (intOf vi).toNat)
 case atStart => exact ⟨0, 0, 0, rfl, rfl, rfl, by omega, rfl, by omega, rfl⟩
 case round =>
  obtain ⟨k, acc, a, rfl, rfl, rfl, hk, hh⟩ := hrel
  obtain ⟨ha, hacc, hdec⟩ := hh.out
  clear hh
  have a0 : 0 ≤ a := by omega
  have a1 : a ≤ 65535 := by omega
  by_cases hkn : k < t.size
  ·have hc := hB k hkn
   have hdrop : bs.drop k = bs[k]'(by omega) :: bs.drop (k + 1) := List.drop_eq_getElem_cons (by omega)
   have hget : bs.getD k 0 = bs[k]'(by omega) := by simp [List.getD, List.getElem?_eq_getElem (show k < bs.length by omega)]
   rw [hdrop] at hdec
   rw [hget] at hc
   generalize bs[k]'(by omega) = c at hc hdec
   have hc256 : c.toNat < 256 := c.toNat_lt
   clear hB hdrop hget
   rcases hexV_cases c with ⟨hd0, hd1, hv⟩ | ⟨hd0, hd1, hlo, hv⟩ | ⟨hd0, hd1, hlo, hv⟩ | ⟨hdig, hlo, hv⟩
   ·by_cases hov : 65535 < acc * 16 + (c.toNat - 48)
    ·have HD := Lib.hid (hdec.trans (hexM_over _ hv hov))
     have iov : 65535 < a * 16 + ((c.toNat : Int) - 48) := by omega
     clear hov hacc ha hdec hv
     go_wp2
     go_ret2
     exact ⟨by rw [HD.out]; exact ⟨_, 1, Or.inl rfl, rfl⟩, rfl⟩
    ·have HN : Hid (a * 16 + ((c.toNat : Int) - 48) = ((acc * 16 + (c.toNat - 48) : Nat) : Int) ∧ acc * 16 + (c.toNat - 48) ≤ 65535 ∧ hexM 0 bs = hexM (acc * 16 + (c.toNat - 48)) (bs.drop (k + 1))) := Lib.hid ⟨by omega, by omega, hdec.trans (hexM_ok _ hv hov)⟩
     have iov : a * 16 + ((c.toNat : Int) - 48) ≤ 65535 := by omega
     clear hacc hov hdec ha hv
     go_wp2
     refine ⟨⟨k + 1, acc * 16 + (c.toNat - 48), a * 16 + ((c.toNat : Int) - 48), rfl, (by first | rfl | (congr 1; omega)), (by first | rfl | (congr 1; omega)), by omega, HN⟩, by simp [intOf]; omega⟩
   ·by_cases hov : 65535 < acc * 16 + (c.toNat - 87)
    ·have HD := Lib.hid (hdec.trans (hexM_over _ hv hov))
     have iov : 65535 < a * 16 + ((c.toNat : Int) - 97 + 10) := by omega
     clear hov hacc ha hdec hv
     go_wp2_with (go_at_call 153; refine (Tryz.internal_strconv_lower _ _).mono ?_; rintro e w' ⟨rfl, rfl⟩; rw [hlo])
     go_ret2
     exact ⟨by rw [HD.out]; exact ⟨_, 1, Or.inl rfl, rfl⟩, rfl⟩
    ·have HN : Hid (a * 16 + ((c.toNat : Int) - 97 + 10) = ((acc * 16 + (c.toNat - 87) : Nat) : Int) ∧ acc * 16 + (c.toNat - 87) ≤ 65535 ∧ hexM 0 bs = hexM (acc * 16 + (c.toNat - 87)) (bs.drop (k + 1))) := Lib.hid ⟨by omega, by omega, hdec.trans (hexM_ok _ hv hov)⟩
     have iov : a * 16 + ((c.toNat : Int) - 97 + 10) ≤ 65535 := by omega
     clear hacc hov hdec ha hv
     go_wp2_with (go_at_call 153; refine (Tryz.internal_strconv_lower _ _).mono ?_; rintro e w' ⟨rfl, rfl⟩; rw [hlo])
     refine ⟨⟨k + 1, acc * 16 + (c.toNat - 87), a * 16 + ((c.toNat : Int) - 97 + 10), rfl, (by first | rfl | (congr 1; omega)), (by first | rfl | (congr 1; omega)), by omega, HN⟩, by simp [intOf]; omega⟩
   ·by_cases hov : 65535 < acc * 16 + (c.toNat - 55)
    ·have HD := Lib.hid (hdec.trans (hexM_over _ hv hov))
     have iov : 65535 < a * 16 + ((c.toNat : Int) + 32 - 97 + 10) := by omega
     clear hov hacc ha hdec hv
     go_wp2_with (go_at_call 153; refine (Tryz.internal_strconv_lower _ _).mono ?_; rintro e w' ⟨rfl, rfl⟩; rw [hlo])
     go_ret2
     exact ⟨by rw [HD.out]; exact ⟨_, 1, Or.inl rfl, rfl⟩, rfl⟩
    ·have HN : Hid (a * 16 + ((c.toNat : Int) + 32 - 97 + 10) = ((acc * 16 + (c.toNat - 55) : Nat) : Int) ∧ acc * 16 + (c.toNat - 55) ≤ 65535 ∧ hexM 0 bs = hexM (acc * 16 + (c.toNat - 55)) (bs.drop (k + 1))) := Lib.hid ⟨by omega, by omega, hdec.trans (hexM_ok _ hv hov)⟩
     have iov : a * 16 + ((c.toNat : Int) + 32 - 97 + 10) ≤ 65535 := by omega
     clear hacc hov hdec ha hv
     go_wp2_with (go_at_call 153; refine (Tryz.internal_strconv_lower _ _).mono ?_; rintro e w' ⟨rfl, rfl⟩; rw [hlo])
     refine ⟨⟨k + 1, acc * 16 + (c.toNat - 55), a * 16 + ((c.toNat : Int) + 32 - 97 + 10), rfl, (by first | rfl | (congr 1; omega)), (by first | rfl | (congr 1; omega)), by omega, HN⟩, by simp [intOf]; omega⟩
   ·have HD := Lib.hid (hdec.trans (hexM_no _ hv))
    clear hacc ha hdec hv
    have hv0 := bits_lo_u8 .or (c.toNat : Int) 32
    have hv1 := bits_hi_u8 .or (c.toNat : Int) 32
    have hu0 : bits .or .u8 95 32 = 127 := by decide +kernel
    go_wp2_with (go_at_call 153; refine (Tryz.internal_strconv_lower _ _).mono ?_; rintro e w' ⟨rfl, rfl⟩)
    all_goals go_ret2
    all_goals exact ⟨by rw [HD.out]; exact ⟨_, 2, Or.inr rfl, rfl⟩, rfl⟩
  ·have hkk : k = t.size := by omega
   subst hkk
   have hF : hexM acc (bs.drop t.size) = some acc := by rw [List.drop_eq_nil_of_le (by omega)]; rfl
   have HD := Lib.hid (hdec.trans hF)
   subst ha
   clear hacc hF a0 a1 hdec
   go_wp2
   go_ret2
   exact ⟨by rw [HD.out]; rfl, rfl⟩
theorem pu16_in (l : List UInt8) (hl : l.length ≤ 4000000000) (w : World) : Calls Tryz.prog 131 #[.string ⟨l.toArray⟩, .int .i64 16, .int .i64 16] w fun e w' => HexPost (hexP l) e ∧ Below w.heap.size w w' := by
 by_cases h0 : l = []
 ·subst h0
  refine (Tryz.internal_strconv_ParseUint_empty 16 16 w).mono ?_
  rintro e w' ⟨rfl, rfl⟩
  exact ⟨⟨0, 2, Or.inr rfl, rfl⟩, Below.refl _ _⟩
 ·have hln : l.length ≠ 0 := fun h => h0 (List.length_eq_zero_iff.1 h)
  refine (ipu16_t ⟨l.toArray⟩ (by rw [bs_size4]; exact hln) (by rw [bs_size4]; omega) w).mono ?_
  rintro e w' ⟨h, rfl⟩
  rw [bs_data] at h
  unfold hexP
  rw [if_neg h0]
  exact ⟨h, Joins.below_bytesWorld _ w _ _ (Nat.le_refl _)⟩
def HexPub (o : Option Nat) (e : Ending) : Prop := match o with
 | some v => e = .returned (.tuple #[.int .u64 v, .nilIface])
 | none => ∃ u t p, e = .returned (.tuple #[.int .u64 u, .iface t p])
theorem gSyn : Tryz.prog.globalNamed "strconv.ErrSyntax" = some 3 := by kernel_rfl
theorem gRng : Tryz.prog.globalNamed "strconv.ErrRange" = some 4 := by kernel_rfl
theorem pu16_t (l : List UInt8) (hl : l.length ≤ 4000000000) (w : World) (hE : Env w) : Calls Tryz.prog 96 #[.string ⟨l.toArray⟩, .int .i64 16, .int .i64 16] w fun e w' => HexPub (hexP l) e ∧ Below w.heap.size w w' := by
 go_enter Tryz.func96, Tryz.ntmps96
 go_wp2_with fail
 refine (pu16_in l hl w).mono ?_
 rintro e w1 ⟨hP, hb⟩
 have HB := Lib.hid hb
 clear hb
 cases hq : hexP l with
 | some v =>
  rw [hq] at hP
  obtain rfl : e = .returned (.tuple #[.int .u64 v, .nilIface]) := hP
  go_wp2
  go_ret2
  exact ⟨by rw [hq]; rfl, HB.out⟩
 | none =>
  rw [hq] at hP
  obtain ⟨u, k, hk, rfl⟩ : ∃ (u k : Int), (k = 1 ∨ k = 2) ∧ e = .returned (.tuple #[.int .u64 u, .iface 187 (.int .i64 k)]) := hP
  have hE1 := hE.later HB.out
  have hto : Calls Tryz.prog 132 #[.string ⟨#[80, 97, 114, 115, 101, 85, 105, 110, 116]⟩, .string ⟨l.toArray⟩, .int .i64 16, .int .i64 16, .iface 187 (.int .i64 k)] w1 fun e w' => (∃ t p, e = .returned (.iface t p)) ∧ Below w1.heap.size w1 w' := by
   rcases hk with rfl | rfl
   ·obtain ⟨tp, p, hv⟩ := hE1.r
    have h0 := World.var?_cell gRng hv 0
    refine (Tryz.strconv_toError_range ⟨#[80, 97, 114, 115, 101, 85, 105, 110, 116]⟩ ⟨l.toArray⟩ 16 16 (.iface tp p) w1 (by rw [bs_size4]; omega) (by simpa using h0) (Or.inr ⟨tp, p, rfl⟩)).mono ?_
    rintro e w' ⟨N, rfl, _, _, hb⟩
    exact ⟨⟨_, _, rfl⟩, hb⟩
   ·obtain ⟨tp, p, hv⟩ := hE1.s
    have h0 := World.var?_cell gSyn hv 0
    refine (Tryz.strconv_toError_syntax ⟨#[80, 97, 114, 115, 101, 85, 105, 110, 116]⟩ ⟨l.toArray⟩ 16 16 (.iface tp p) w1 (by rw [bs_size4]; omega) (by simpa using h0) (Or.inr ⟨tp, p, rfl⟩)).mono ?_
    rintro e w' ⟨N, rfl, _, _, hb⟩
    exact ⟨⟨_, _, rfl⟩, hb⟩
  clear hE1
  go_wp2_with fail
  refine hto.mono ?_
  rintro e w2 ⟨⟨t, p, rfl⟩, hb2⟩
  have HB2 := Lib.hid (below_step HB.out hb2)
  clear HB hb2 hto
  go_wp2
  go_ret2
  exact ⟨by rw [hq]; exact ⟨_, _, _, rfl⟩, HB2.out⟩
def lf (vs : List Nat) (i : Nat) : Int := ((vs.getD i 0 : Nat) : Int)
def cellsV (vs : List Nat) : Array Value := #[.int .u16 (lf vs 0), .int .u16 (lf vs 1), .int .u16 (lf vs 2), .int .u16 (lf vs 3), .int .u16 (lf vs 4), .int .u16 (lf vs 5), .int .u16 (lf vs 6), .int .u16 (lf vs 7)]
theorem cellsV_get (vs : List Nat) (i : Nat) (h : i < 8) : (cellsV vs)[i]? = some (.int .u16 (lf vs i)) := by
 rcases i with _ | _ | _ | _ | _ | _ | _ | _ | i <;> first | rfl | omega
theorem cellsV_size (vs : List Nat) : (cellsV vs).size = 8 := rfl
theorem lf_app (vs : List Nat) (v i : Nat) : lf (vs ++ [v]) i = if i = vs.length then (v : Int) else lf vs i := by
 unfold lf
 by_cases h : i < vs.length
 ·rw [if_neg (by omega)]; simp [List.getElem?_append_left h]
 ·by_cases h2 : i = vs.length
  ·subst h2; simp
  ·rw [if_neg h2]; simp [List.getElem?_eq_none (show vs.length ≤ i by omega), List.getElem?_eq_none (show (vs ++ [v]).length ≤ i by simp; omega)]
theorem cellsV_set (vs : List Nat) (v : Nat) (h : vs.length < 8) : (cellsV vs).setIfInBounds vs.length (.int .u16 (v : Int)) = cellsV (vs ++ [v]) := by
 apply Array.ext_getElem?
 intro i
 by_cases hi : i < 8
 ·rw [cellsV_get _ i hi, lf_app, Array.getElem?_setIfInBounds]
  by_cases he : vs.length = i
  ·rw [if_pos he, if_pos (by rw [cellsV_size]; exact h), if_pos he.symm]
  ·rw [if_neg he, cellsV_get _ i hi, if_neg (fun e => he e.symm)]
 ·rw [Array.getElem?_eq_none (by simp [cellsV_size]; omega), Array.getElem?_eq_none (by rw [cellsV_size]; omega)]
noncomputable def stepV (d last : Bool) (p : List UInt8) (n : Nat) : Option (List Nat) :=
 if d = true ∧ last = true ∧ (parse4 p).2 = 0 ∧ n + 2 ≤ 8 then some [(parse4 p).1.toNat / 65536, (parse4 p).1.toNat % 65536] else if n < 8 then (grpV p).map fun v => [v] else none
def StepPost (o : Option (List Nat)) (d : Bool) (vs : List Nat) (B gd gn gg : Nat) (w : World) (e : Ending) (w' : World) : Prop := match o with
 | some xs => e = .returned (.bool true) ∧ Row w' gd #[.bool d] 4 ∧ Row w' gn #[.int .i64 ((vs ++ xs).length : Nat)] 3 ∧ Row w' gg (cellsV (vs ++ xs)) 107 ∧ Below B w w'
 | none => e = .returned (.bool false) ∧ Row w' gd #[.bool d] 4 ∧ Row w' gn #[.int .i64 (vs.length : Nat)] 3 ∧ Row w' gg (cellsV vs) 107 ∧ Below B w w'
theorem seq1_t (d last : Bool) (p : List UInt8) (hp : p.length ≤ 4000000000) (vs : List Nat) (hvs : vs.length ≤ 8) (B gd gn gg : Nat) (h1 : B ≤ gn) (h2 : B ≤ gg) (h3 : gd ≠ gn) (h4 : gd ≠ gg) (h5 : gn ≠ gg) (w : World) (hE : Env w) (Rd : Row w gd #[.bool d] 4) (Rn : Row w gn #[.int .i64 (vs.length : Nat)] 3) (Rg : Row w gg (cellsV vs) 107) :
  Calls Tryz.prog 133 #[.string ⟨p.toArray⟩, .bool last, .pointer (some ⟨gd, 0, none⟩), .pointer (some ⟨gn, 0, none⟩), .pointer (some ⟨gg, 0, none⟩)] w (StepPost (stepV d last p vs.length) d vs B gd gn gg w) := by
 have hBw : B ≤ w.heap.size := Nat.le_trans h1 (Nat.le_of_lt Rn.lt)
 have HRd := Lib.hid Rd
 have HRn := Lib.hid Rn
 have HRg := Lib.hid Rg
 clear Rd Rn Rg
 have hST : ∀ r, r = stepV d last p vs.length → stepV d last p vs.length = r := fun r h => h.symm
 go_enter Tryz.func133, Tryz.ntmps133
 go_wp2_with fail
 refine (parse4_t p hp w hE).mono ?_
 rintro e w1 ⟨rfl, hb1⟩
 have HB1 := Lib.hid (hb1.mono hBw)
 have HRd1 := Lib.hid (HRd.out.later hb1)
 have HRn1 := Lib.hid (HRn.out.later hb1)
 have HRg1 := Lib.hid (HRg.out.later hb1)
 have HE1 := Lib.hid (hE.later hb1)
 have Rz : ∀ X, X = w1.heap.size → B ≤ w1.heap.size := fun _ _ => Nat.le_trans hBw hb1.size
 have hBw1 := Rz _ rfl
 clear HRd HRn HRg hb1 Rz hST
 have hrng := parse_range p
 have herr := parse_err p
 have HST : Hid (stepV d last p vs.length = if d = true ∧ last = true ∧ (parse4 p).2 = 0 ∧ vs.length + 2 ≤ 8 then some [(parse4 p).1.toNat / 65536, (parse4 p).1.toNat % 65536] else if vs.length < 8 then (grpV p).map fun v => [v] else none) := Lib.hid rfl
 generalize stepV d last p vs.length = sv at *
 generalize parse4 p = pr at *
 obtain ⟨A, er⟩ := pr
 dsimp only at hrng herr HST ⊢
 have cd : w1.cell? ⟨gd, 0, none⟩ = some (.bool d) := (HRd1.out.cell 0).trans rfl
 have cn : w1.cell? ⟨gn, 0, none⟩ = some (.int .i64 (vs.length : Nat)) := (HRn1.out.cell 0).trans rfl
 have hnA : ∀ (P : Prop), P → ¬ (d = true ∧ last = true ∧ er = 0 ∧ vs.length + 2 ≤ 8) → P ∧ ¬ (d = true ∧ last = true ∧ er = 0 ∧ vs.length + 2 ≤ 8) := fun _ a b => ⟨a, b⟩
 have hcs : (d = true ∧ last = true ∧ er = 0 ∧ vs.length + 2 ≤ 8) ∨ (er = 3 ∧ ¬ (d = true ∧ last = true ∧ er = 0 ∧ vs.length + 2 ≤ 8)) ∨ ((er = 0 ∧ d = false) ∧ ¬ (d = true ∧ last = true ∧ er = 0 ∧ vs.length + 2 ≤ 8)) ∨ ((er = 0 ∧ d = true ∧ last = false) ∧ ¬ (d = true ∧ last = true ∧ er = 0 ∧ vs.length + 2 ≤ 8)) ∨ ((er = 0 ∧ d = true ∧ last = true ∧ ¬ vs.length + 2 ≤ 8) ∧ ¬ (d = true ∧ last = true ∧ er = 0 ∧ vs.length + 2 ≤ 8)) := by
  cases d <;> cases last <;> simp <;> omega
 clear hnA
 rcases hcs with hA | ⟨rfl, hA⟩ | ⟨⟨rfl, rfl⟩, hA⟩ | ⟨⟨rfl, rfl, rfl⟩, hA⟩ | ⟨⟨rfl, rfl, rfl, hn8⟩, hA⟩
 ·have HS := Lib.hid (HST.out.trans (if_pos hA))
  obtain ⟨rfl, rfl, rfl, hn2⟩ := hA
  clear HST herr hE hvs
  have g0 := (HRg1.out.cell vs.length).trans (cellsV_get vs vs.length (by omega))
  have g1 := (HRg1.out.cell (vs.length + 1)).trans (cellsV_get vs (vs.length + 1) (by omega))
  have f0 := HRg1.out.frozen vs.length
  have f1 := HRg1.out.frozen (vs.length + 1)
  have fn := HRn1.out.frozen 0
  generalize lf vs vs.length = y0 at *
  generalize lf vs (vs.length + 1) = y1 at *
  generalize hn : vs.length = n at *
  have HN := Lib.hid hn
  clear hn
  have q1 : (n : Int) + 2 ≤ 8 := by omega
  have q2 : ((n : Int) + 1).toNat = n + 1 := by omega
  have q4 : 0 ≤ A := hrng.1
  have q5 : A ≤ 4294967295 := hrng.2
  have q6 : IntKind.i64.wrap ((n : Int) + 1) = (n : Int) + 1 := by simp [IntKind.wrap, IntKind.bits, IntKind.signed]; omega
  have q3 : IntKind.u16.wrap (A / 65536) = A / 65536 := by simp [IntKind.wrap, IntKind.bits, IntKind.signed]; omega
  have q7 : IntKind.u16.wrap A = A % 65536 := by simp [IntKind.wrap, IntKind.bits, IntKind.signed]
  go_wp2_with fail
  go_region
  have RG2 := ((HRg1.out.set n (.int .u16 (A / 65536))).set (n + 1) (.int .u16 (A % 65536))).drew
  have RN2 := ((HRn1.out.set_far ⟨gg, n, none⟩ (.int .u16 (A / 65536)) (by dsimp only; omega)).set_far ⟨gg, n + 1, none⟩ (.int .u16 (A % 65536)) (by dsimp only; omega)).drew
  have RD2 := ((HRd1.out.set_far ⟨gg, n, none⟩ (.int .u16 (A / 65536)) (by dsimp only; omega)).set_far ⟨gg, n + 1, none⟩ (.int .u16 (A % 65536)) (by dsimp only; omega)).drew
  have HB2 := Lib.hid ((HB1.out.setCell (p := ⟨gg, n, none⟩) (by dsimp only; omega) (.int .u16 (A / 65536))).setCell (p := ⟨gg, n + 1, none⟩) (by dsimp only; omega) (.int .u16 (A % 65536))).drew
  generalize ((w1.setCell ⟨gg, n, none⟩ (.int .u16 (A / 65536))).setCell ⟨gg, n + 1, none⟩ (.int .u16 (A % 65536))).drew = w2 at *
  have cn2 : w2.cell? ⟨gn, 0, none⟩ = some (.int .i64 (n : Nat)) := (RN2.cell 0).trans rfl
  have fn2 := RN2.frozen 0
  have HRG2 := Lib.hid RG2
  have HRN2 := Lib.hid RN2
  have HRD2 := Lib.hid RD2
  clear RG2 RN2 RD2 g0 g1 f0 f1 cn fn cd HRg1 HRn1 HRd1 HB1
  go_wp2
  go_ret
  rw [HS.out]
  obtain rfl := HN.out
  have e1 : A / 65536 = ((A.toNat / 65536 : Nat) : Int) := by omega
  have e2 : A % 65536 = ((A.toNat % 65536 : Nat) : Int) := by omega
  refine ⟨rfl, HRD2.out.set_far _ _ (by dsimp only; omega), ?_, ?_, HB2.out.setCell (by dsimp only; omega) _⟩
  ·have := HRN2.out.set 0 (.int .i64 ((vs.length : Int) + 2))
   simpa using this
  ·have h8 := HRG2.out.set_far ⟨gn, 0, none⟩ (.int .i64 ((vs.length : Int) + 2)) (by dsimp only; omega)
   rw [e1, e2, cellsV_set vs _ (by omega), show vs.length + 1 = (vs ++ [A.toNat / 65536]).length by simp, cellsV_set (vs ++ [A.toNat / 65536]) _ (by simp; omega)] at h8
   simpa using h8
 all_goals
  have HS := Lib.hid (HST.out.trans (if_neg hA))
  clear hA HST herr hrng
  try have q8 : (8 : Int) < (vs.length : Int) + 2 := by omega
  go_wp2_with fail
  refine (pu16_t p hp w1 HE1.out).mono ?_
  rintro e w2 ⟨hP, hb2⟩
  have HB2 := Lib.hid (HB1.out.trans (hb2.mono hBw1))
  have HRD2 := Lib.hid (HRd1.out.later hb2)
  have HRN2 := Lib.hid (HRn1.out.later hb2)
  have HRG2 := Lib.hid (HRg1.out.later hb2)
  clear HRd1 HRn1 HRg1 HB1 hb2 cd cn HE1 hE
  have cn2 : w2.cell? ⟨gn, 0, none⟩ = some (.int .i64 (vs.length : Nat)) := (HRN2.out.cell 0).trans rfl
  have fn2 := HRN2.out.frozen 0
  have hgr : grpV p = if 4 < p.length then none else hexP p := rfl
  cases hq : hexP p with
  | none =>
   rw [hq] at hP hgr
   obtain ⟨u, t, pp, rfl⟩ : ∃ u t pp, e = .returned (.tuple #[.int .u64 u, .iface t pp]) := hP
   have hsv : sv = none := by rw [HS.out, hgr]; simp
   clear hgr
   go_wp2
   go_ret
   rw [hsv]
   exact ⟨rfl, HRD2.out, HRN2.out, HRG2.out, HB2.out⟩
  | some v =>
   rw [hq] at hP hgr
   obtain rfl : e = .returned (.tuple #[.int .u64 v, .nilIface]) := hP
   have hv : v ≤ 65535 := by
    unfold hexP at hq
    split at hq
    ·cases hq
    ·exact hexM_lt _ _ _ (by omega) hq
   clear hq
   by_cases hl4 : 4 < p.length
   ·have hsv : sv = none := by rw [HS.out, hgr, if_pos hl4]; simp
    have hl4' : (4 : Int) < (p.length : Int) := by omega
    clear hgr
    go_wp2
    go_ret
    rw [hsv]
    exact ⟨rfl, HRD2.out, HRN2.out, HRG2.out, HB2.out⟩
   ·rw [if_neg hl4] at hgr
    have hl4' : ¬ (4 : Int) < (p.length : Int) := by omega
    by_cases hn7 : vs.length < 8
    ·have hsv : sv = some [v] := by rw [HS.out, hgr, if_pos hn7]; rfl
     have hn9 : ((vs.length : Int) == 8) = false := by rw [beq_eq_false_iff_ne]; omega
     have hn10 : ¬ (vs.length : Int) = 8 := by omega
     have g0 := (HRG2.out.cell vs.length).trans (cellsV_get vs vs.length (by omega))
     have f0 := HRG2.out.frozen vs.length
     have q9 : (v : Int) % 65536 = v := by omega
     clear hgr
     go_wp2
     go_ret
     rw [hsv]
     refine ⟨rfl, (HRD2.out.set_far _ _ (by dsimp only; omega)).set_far _ _ (by dsimp only; omega), ?_, ?_, (HB2.out.setCell (by dsimp only; omega) _).setCell (by dsimp only; omega) _⟩
     ·have := (HRN2.out.set_far ⟨gg, vs.length, none⟩ (.int .u16 (v : Int)) (by dsimp only; omega)).set 0 (.int .i64 ((vs.length : Int) + 1))
      simpa using this
     ·have h8 := (HRG2.out.set vs.length (.int .u16 (v : Int))).set_far ⟨gn, 0, none⟩ (.int .i64 ((vs.length : Int) + 1)) (by dsimp only; omega)
      rw [cellsV_set vs _ (by omega)] at h8
      exact h8
    ·have hsv : sv = none := by rw [HS.out, if_neg hn7]
     have hn9 : (vs.length : Int) = 8 := by omega
     have hn10 : ((vs.length : Int) == 8) = true := by rw [beq_iff_eq]; omega
     clear hgr
     go_wp2
     go_ret
     rw [hsv]
     exact ⟨rfl, HRD2.out, HRN2.out, HRG2.out, HB2.out⟩
theorem hexM_mem {c : UInt8} (hc : hexV c = none) : ∀ (l : List UInt8) (acc : Nat), c ∈ l → hexM acc l = none
 | [], _, h => by cases h
 | x :: r, acc, h => by
  rw [hexM]
  by_cases e : c = x
  ·subst e; rw [hc]
  ·have hr : c ∈ r := by rcases List.mem_cons.1 h with h | h; exact absurd h e; exact h
   split
   ·rfl
   ·split
    ·rfl
    ·exact hexM_mem hc r _ hr
theorem grpV_dot {p : List UInt8} (h : (parse4 p).2 = 0) : grpV p = none := by
 have hm : (46 : UInt8) ∈ p := by
  rw [← (parse_ok h).1]
  unfold print4
  rw [txt4_is]
  simp
 unfold grpV hexP
 split
 ·rfl
 ·split
  ·rfl
  ·exact hexM_mem (by decide) p 0 hm
theorem seqV_cons (d : Bool) (p : List UInt8) (ps : List (List UInt8)) (h : ps ≠ []) : seqV d (p :: ps) = match grpV p, seqV d ps with
  | some v, some vs => some (v :: vs)
  | _, _ => none := by
 cases ps with
 | nil => exact absurd rfl h
 | cons q r => rw [seqV] <;> cases grpV p <;> cases seqV d (q :: r) <;> rfl
noncomputable def seqR (d : Bool) (l : List UInt8) : Option (List Nat) := match readV d l with
 | some vs => if vs.length ≤ 8 then some vs else none
 | none => none
def MorePost (d : Bool) (l r : List UInt8) (vs : List Nat) (o : Option (List Nat)) : Prop := match o with
 | some xs => (vs ++ xs).length ≤ 8 ∧ seqV d (splitC l) = (seqV d (splitC r)).map fun us => (vs ++ xs) ++ us
 | none => ∀ us, seqV d (splitC l) = some us → 8 < us.length
theorem step_more {d : Bool} {l rest p r : List UInt8} {vs : List Nat} (hs : splitC rest = p :: splitC r) (hrel : seqV d (splitC l) = (seqV d (splitC rest)).map fun us => vs ++ us) (hn : vs.length ≤ 8) : MorePost d l r vs (stepV d false p vs.length) := by
 rw [hs, seqV_cons d p _ (split_ne r)] at hrel
 unfold stepV
 rw [if_neg (by simp)]
 cases hg : grpV p with
 | none =>
  rw [hg] at hrel
  have hR : seqV d (splitC l) = none := hrel
  have : (if vs.length < 8 then Option.map (fun v => [v]) (none : Option Nat) else none) = none := by simp
  rw [this]
  intro us h; rw [hR] at h; cases h
 | some v =>
  rw [hg] at hrel
  by_cases h8 : vs.length < 8
  ·rw [if_pos h8]
   refine ⟨by simp; omega, ?_⟩
   rw [hrel]
   cases seqV d (splitC r) with
   | none => rfl
   | some us => simp
  ·rw [if_neg h8]
   intro us h
   rw [hrel] at h
   cases hq : seqV d (splitC r) with
   | none => rw [hq] at h; cases h
   | some ys => rw [hq] at h; simp at h; rw [← h]; simp; omega
def LastPost (d : Bool) (l : List UInt8) (vs : List Nat) (o : Option (List Nat)) : Prop := match o with
 | some xs => (vs ++ xs).length ≤ 8 ∧ seqV d (splitC l) = some (vs ++ xs)
 | none => ∀ us, seqV d (splitC l) = some us → 8 < us.length
theorem step_last {d : Bool} {l rest : List UInt8} {vs : List Nat} (hs : splitC rest = [rest]) (hrel : seqV d (splitC l) = (seqV d (splitC rest)).map fun us => vs ++ us) (hn : vs.length ≤ 8) : LastPost d l vs (stepV d true rest vs.length) := by
 rw [hs, seqV] at hrel
 unfold lastV at hrel
 unfold stepV
 by_cases h4 : d = true ∧ (parse4 rest).2 = 0
 ·rw [if_pos h4] at hrel
  by_cases h6 : vs.length + 2 ≤ 8
  ·rw [if_pos ⟨h4.1, rfl, h4.2, h6⟩]
   exact ⟨by simp; omega, hrel⟩
  ·rw [if_neg (fun h => h6 h.2.2.2), grpV_dot h4.2]
   have : (if vs.length < 8 then Option.map (fun v => [v]) (none : Option Nat) else none) = none := by simp
   rw [this]
   intro us h; rw [hrel] at h; simp at h; rw [← h]; simp; omega
 ·rw [if_neg h4] at hrel
  rw [if_neg (fun h => h4 ⟨h.1, h.2.2.1⟩)]
  cases hg : grpV rest with
  | none =>
   rw [hg] at hrel
   have : (if vs.length < 8 then Option.map (fun v => [v]) (none : Option Nat) else none) = none := by simp
   rw [this]
   intro us h; rw [hrel] at h; cases h
  | some v =>
   rw [hg] at hrel
   by_cases h8 : vs.length < 8
   ·rw [if_pos h8]
    exact ⟨by simp; omega, hrel⟩
   ·rw [if_neg h8]
    intro us h; rw [hrel] at h; simp at h; rw [← h]; simp; omega
theorem seqR_none {d : Bool} {l : List UInt8} (h0 : l ≠ []) (h : ∀ us, seqV d (splitC l) = some us → 8 < us.length) : seqR d l = none := by
 unfold seqR readV
 rw [if_neg h0]
 cases hq : seqV d (splitC l) with
 | none => rfl
 | some us => have := h us hq; simp; omega
theorem seqR_some {d : Bool} {l : List UInt8} {vs : List Nat} (h0 : l ≠ []) (h : seqV d (splitC l) = some vs) (h8 : vs.length ≤ 8) : seqR d l = some vs := by
 unfold seqR readV
 rw [if_neg h0, h]
 simp [h8]
theorem cutb_t (l s : List UInt8) (hl : l.length ≤ 4000000000) (w : World) (hE : Env w) : Calls Tryz.prog 21 #[.string ⟨l.toArray⟩, .string ⟨s.toArray⟩] w fun e w' => e = .returned (.tuple #[.string ⟨(Lib.cut l s).1.toArray⟩, .string ⟨(Lib.cut l s).2.1.toArray⟩, .bool (Lib.cut l s).2.2]) ∧ Below w.heap.size w w' := by
 obtain ⟨m, hm⟩ := hE.m
 refine (Tryz.strings_Cut ⟨l.toArray⟩ ⟨s.toArray⟩ m w (by rw [bs_size4]; omega) hm).mono ?_
 rintro e w' ⟨rfl, n, rfl⟩
 exact ⟨rfl, below_drewN (Below.refl _ _) n⟩
def SeqPost (o : Option (List Nat)) (w : World) (e : Ending) (w' : World) : Prop := (match o with
 | some vs => e = .returned (.tuple #[arr8 (lf vs), .int .i64 (vs.length : Nat), .bool true])
 | none => e = .returned (.tuple #[arr8 (fun _ => 0), .int .i64 0, .bool false])) ∧ Below w.heap.size w w'
theorem lf_nil : lf [] = fun _ => 0 := by funext i; simp [lf]
def mLen6 (s m : Value) : Nat := match m, s with
 | .bool true, .string b => b.size + 1
 | _, _ => 0
theorem setV (f : Nat → Int) (a0 a1 a2 a3 a4 a5 a6 a7 : Value) : ((((((((#[Value.int .u16 (f 0), .int .u16 (f 1), .int .u16 (f 2), .int .u16 (f 3), .int .u16 (f 4), .int .u16 (f 5), .int .u16 (f 6), .int .u16 (f 7)] : Array Value).setIfInBounds 0 a0).setIfInBounds 1 a1).setIfInBounds 2 a2).setIfInBounds 3 a3).setIfInBounds 4 a4).setIfInBounds 5 a5).setIfInBounds 6 a6).setIfInBounds 7 a7 = #[a0, a1, a2, a3, a4, a5, a6, a7] := by simp
theorem Row.set8 {w : World} {g : Nat} {f : Nat → Int} {t : TypeId} (h : Row w g #[.int .u16 (f 0), .int .u16 (f 1), .int .u16 (f 2), .int .u16 (f 3), .int .u16 (f 4), .int .u16 (f 5), .int .u16 (f 6), .int .u16 (f 7)] t) (a0 a1 a2 a3 a4 a5 a6 a7 : Value) :
  Row ((((((((w.setCell ⟨g, 0, none⟩ a0).setCell ⟨g, 1, none⟩ a1).setCell ⟨g, 2, none⟩ a2).setCell ⟨g, 3, none⟩ a3).setCell ⟨g, 4, none⟩ a4).setCell ⟨g, 5, none⟩ a5).setCell ⟨g, 6, none⟩ a6).setCell ⟨g, 7, none⟩ a7) g #[a0, a1, a2, a3, a4, a5, a6, a7] t := by
 have := (((((((h.set 0 a0).set 1 a1).set 2 a2).set 3 a3).set 4 a4).set 5 a5).set 6 a6).set 7 a7
 rwa [setV] at this
theorem Row.far8 {w : World} {g k : Nat} {cs : Array Value} {t : TypeId} (h : Row w k cs t) (hne : k ≠ g) (a0 a1 a2 a3 a4 a5 a6 a7 : Value) :
  Row ((((((((w.setCell ⟨g, 0, none⟩ a0).setCell ⟨g, 1, none⟩ a1).setCell ⟨g, 2, none⟩ a2).setCell ⟨g, 3, none⟩ a3).setCell ⟨g, 4, none⟩ a4).setCell ⟨g, 5, none⟩ a5).setCell ⟨g, 6, none⟩ a6).setCell ⟨g, 7, none⟩ a7) k cs t :=
 (((((((h.set_far ⟨g, 0, none⟩ a0 hne).set_far ⟨g, 1, none⟩ a1 hne).set_far ⟨g, 2, none⟩ a2 hne).set_far ⟨g, 3, none⟩ a3 hne).set_far ⟨g, 4, none⟩ a4 hne).set_far ⟨g, 5, none⟩ a5 hne).set_far ⟨g, 6, none⟩ a6 hne).set_far ⟨g, 7, none⟩ a7 hne
theorem below8 {B : Nat} {u w : World} {g : Nat} (h : Below B u w) (hg : B ≤ g) (a0 a1 a2 a3 a4 a5 a6 a7 : Value) :
  Below B u ((((((((w.setCell ⟨g, 0, none⟩ a0).setCell ⟨g, 1, none⟩ a1).setCell ⟨g, 2, none⟩ a2).setCell ⟨g, 3, none⟩ a3).setCell ⟨g, 4, none⟩ a4).setCell ⟨g, 5, none⟩ a5).setCell ⟨g, 6, none⟩ a6).setCell ⟨g, 7, none⟩ a7) :=
 (((((((h.setCell (p := ⟨g, 0, none⟩) hg a0).setCell (p := ⟨g, 1, none⟩) hg a1).setCell (p := ⟨g, 2, none⟩) hg a2).setCell (p := ⟨g, 3, none⟩) hg a3).setCell (p := ⟨g, 4, none⟩) hg a4).setCell (p := ⟨g, 5, none⟩) hg a5).setCell (p := ⟨g, 6, none⟩) hg a6).setCell (p := ⟨g, 7, none⟩) hg a7
theorem seq_t (d : Bool) (l : List UInt8) (hl : l.length ≤ 4000000000) (w : World) (hE : Env w) : Calls Tryz.prog 100 #[.string ⟨l.toArray⟩, .bool d] w (SeqPost (seqR d l) w) := by
 have hmf : ∀ (fn : Fn) (first cap : Array Value) (w : World), (Instr.makeFunc fn first cap).run Tryz.prog w = .ok (.func fn first cap) w := fun _ _ _ _ => rfl
 by_cases h0 : l = []
 ·subst h0
  have hsr : seqR d [] = some [] := by unfold seqR readV; simp
  rw [hsr]
  have HM := Lib.hid hmf
  clear hmf hsr
  go_enter Tryz.func100, Tryz.ntmps100
  go_wp2
  exact bodyPost_ret (v := .tuple #[arr8 (lf []), .int .i64 0, .bool true]) (by simp only [results, Tryz.results100]; simp [go_sem, arr8, lf_nil]) rfl ⟨rfl, (by repeat (first | exact Below.refl _ _ | assumption | (with_reducible refine Below.drew ?_) | ((with_reducible first | refine Below.setCell ?_ ?h _ | refine Below.alloc ?_ ?h _ | refine Below.trans ?_ (hb3.mono ?h) | refine Below.trans ?_ (hb2.mono ?h) | refine Below.trans ?_ (hb.mono ?h) | refine Below.trans ?_ (hb0.mono ?h)); case h => first | omega | (simp; done) | (simp; omega))))⟩
 ·obtain ⟨t, ht⟩ : ∃ t : ByteArray, t = ⟨l.toArray⟩ := ⟨_, rfl⟩
  have hemp : t.toList.isEmpty = false := by
   rw [← decide_eq_emptyBytes]
   exact decide_eq_false (fun h => h0 (by rw [ht] at h; have := congrArg (fun b : ByteArray => b.data.toList) h; simpa using this))
  rw [← ht]
  have HT := Lib.hid ht
  clear ht
  go_enter Tryz.func100, Tryz.ntmps100
  go_wp2_with fail
  have Rd0 : Row (((w.alloc (.cells #[.bool d] 4)).alloc (.cells zero8 107)).alloc (.cells #[.int .i64 0] 3)) w.heap.size #[.bool d] 4 := ((Row.new w _ _).alloc _).alloc _
  have Rg0 : Row (((w.alloc (.cells #[.bool d] 4)).alloc (.cells zero8 107)).alloc (.cells #[.int .i64 0] 3)) (w.heap.size + 1) (cellsV []) 107 := by simpa [cellsV, lf, zero8] using (Row.new (w.alloc (.cells #[.bool d] 4)) zero8 107).alloc (.cells #[.int .i64 0] 3)
  have Rn0 : Row (((w.alloc (.cells #[.bool d] 4)).alloc (.cells zero8 107)).alloc (.cells #[.int .i64 0] 3)) (w.heap.size + 2) #[.int .i64 (([] : List Nat).length : Nat)] 3 := by
   have h := Row.new ((w.alloc (.cells #[.bool d] 4)).alloc (.cells zero8 107)) #[.int .i64 0] 3
   rw [show ((w.alloc (.cells #[.bool d] 4)).alloc (.cells zero8 107)).heap.size = w.heap.size + 2 by simp] at h
   exact h
  have hb0 : Below w.heap.size w (((w.alloc (.cells #[.bool d] 4)).alloc (.cells zero8 107)).alloc (.cells #[.int .i64 0] 3)) := (by repeat (first | exact Below.refl _ _ | assumption | (with_reducible refine Below.drew ?_) | ((with_reducible first | refine Below.setCell ?_ ?h _ | refine Below.alloc ?_ ?h _ | refine Below.trans ?_ (hb3.mono ?h) | refine Below.trans ?_ (hb2.mono ?h) | refine Below.trans ?_ (hb.mono ?h) | refine Below.trans ?_ (hb0.mono ?h)); case h => first | omega | (simp; done) | (simp; omega))))
  unfold zero8 at Rd0 Rg0 Rn0 hb0
  generalize ((w.alloc (.cells #[.bool d] 4)).alloc (.cells #[.int .u16 0, .int .u16 0, .int .u16 0, .int .u16 0, .int .u16 0, .int .u16 0, .int .u16 0, .int .u16 0] 107)).alloc (.cells #[.int .i64 0] 3) = w0 at *
  go_loopw [0, 8] (fun s m wr => ∃ (b : Bool) (rest : List UInt8) (vs : List Nat), s = .string ⟨rest.toArray⟩ ∧ m = .bool b ∧ rest.length ≤ 4000000000 ∧ vs.length ≤ 8 ∧ Row wr w.heap.size #[.bool d] 4 ∧ Row wr (w.heap.size + 2) #[.int .i64 (vs.length : Nat)] 3 ∧ Row wr (w.heap.size + 1) (cellsV vs) 107 ∧ Below w.heap.size w wr ∧ Hid (if b = true then seqV d (splitC l) = (seqV d (splitC rest)).map fun us => vs ++ us else seqV d (splitC l) = some vs)) (fun s m _ => mLen6 s m)
  case atStart => exact ⟨true, l, [], by rw [HT.out], rfl, hl, by simp, Rd0, Rn0, Rg0, hb0, Lib.hid (by rw [if_pos rfl]; simp)⟩
  case round =>
   clear Rd0 Rg0 Rn0 hb0 HT hemp
   obtain ⟨b, rest, vs, rfl, rfl, hrl, hv8, Rd, Rn, Rg, hb, hr⟩ := hrel
   have HRd := Lib.hid Rd
   have HRn := Lib.hid Rn
   have HRg := Lib.hid Rg
   have HB := Lib.hid hb
   clear Rd Rn Rg hb
   cases b with
   | true =>
    have hcut := cutb_t rest [58] hrl wr (hE.later HB.out)
    rcases split_cut rest with ⟨p, r, hp, hre, hcu, hsp⟩ | ⟨hp, hcu, hsp⟩
    ·rw [hcu] at hcut
     have hplen : p.length ≤ 4000000000 := by rw [hre] at hrl; simp at hrl; omega
     have hrlen : r.length ≤ 4000000000 := by rw [hre] at hrl; simp at hrl; omega
     have hdec : r.length + 1 < rest.length + 1 := by rw [hre]; simp; omega
     have HSM := Lib.hid (step_more hsp hr.out hv8)
     have HC := Lib.hid hcut
     have HDEC := Lib.hid hdec
     clear hcut hcu hre hsp hr hp hdec
     go_wp2_with fail
     refine HC.out.mono ?_
     rintro e w1 ⟨rfl, hb1⟩
     have HRd1 := Lib.hid (HRd.out.later hb1)
     have HRn1 := Lib.hid (HRn.out.later hb1)
     have HRg1 := Lib.hid (HRg.out.later hb1)
     have HB1 := Lib.hid (below_step HB.out hb1)
     clear HRd HRn HRg HB hb1 HC
     go_wp2_with fail
     refine (seq1_t d false p hplen vs hv8 w.heap.size w.heap.size (w.heap.size + 2) (w.heap.size + 1) (by omega) (by omega) (by omega) (by omega) (by omega) w1 (hE.later HB1.out) HRd1.out HRn1.out HRg1.out).mono ?_
     rintro e w2 hP
     have hM := HSM.out
     clear HSM
     cases hq : stepV d false p vs.length with
     | some xs =>
      rw [hq] at hP hM
      obtain ⟨rfl, Rd2, Rn2, Rg2, hb2⟩ := hP
      obtain ⟨h8, hs⟩ := hM
      have HR2 := Lib.hid (And.intro Rd2 (And.intro Rn2 (And.intro Rg2 (HB1.out.trans hb2))))
      have HS2 := Lib.hid hs
      clear Rd2 Rn2 Rg2 hb2 hs HB1 hq
      go_wp2
      exact ⟨⟨true, r, vs ++ xs, rfl, rfl, hrlen, h8, HR2.out.1, HR2.out.2.1, HR2.out.2.2.1, HR2.out.2.2.2, Lib.hid (by rw [if_pos rfl]; exact HS2.out)⟩, by have := HDEC.out; simpa [mLen6, bs_size4] using this⟩
     | none =>
      rw [hq] at hP hM
      obtain ⟨rfl, Rd2, Rn2, Rg2, hb2⟩ := hP
      have HSR := Lib.hid (seqR_none h0 hM)
      have hb3 := HB1.out.trans hb2
      have c0 := (Rg2.cell 0).trans (show _ = some (Value.int .u16 (lf vs 0)) from rfl)
      have f0 := Rg2.frozen 0
      have c1 := (Rg2.cell 1).trans (show _ = some (Value.int .u16 (lf vs 1)) from rfl)
      have f1 := Rg2.frozen 1
      have c2 := (Rg2.cell 2).trans (show _ = some (Value.int .u16 (lf vs 2)) from rfl)
      have f2 := Rg2.frozen 2
      have c3 := (Rg2.cell 3).trans (show _ = some (Value.int .u16 (lf vs 3)) from rfl)
      have f3 := Rg2.frozen 3
      have c4 := (Rg2.cell 4).trans (show _ = some (Value.int .u16 (lf vs 4)) from rfl)
      have f4 := Rg2.frozen 4
      have c5 := (Rg2.cell 5).trans (show _ = some (Value.int .u16 (lf vs 5)) from rfl)
      have f5 := Rg2.frozen 5
      have c6 := (Rg2.cell 6).trans (show _ = some (Value.int .u16 (lf vs 6)) from rfl)
      have f6 := Rg2.frozen 6
      have c7 := (Rg2.cell 7).trans (show _ = some (Value.int .u16 (lf vs 7)) from rfl)
      have f7 := Rg2.frozen 7
      have n0 := (Rn2.cell 0).trans (show _ = some (Value.int .i64 (vs.length : Nat)) from rfl)
      have nf := Rn2.frozen 0
      have HRg2 := Lib.hid Rg2
      have HRn2 := Lib.hid Rn2
      have HB3 := Lib.hid hb3
      clear Rd2 Rn2 Rg2 hb2 hb3 HB1 hq hM
      go_wp2
      have Q := (Row.set8 HRg2.out (.int .u16 0) (.int .u16 0) (.int .u16 0) (.int .u16 0) (.int .u16 0) (.int .u16 0) (.int .u16 0) (.int .u16 0)).set_far ⟨w.heap.size + 2, 0, none⟩ (.int .i64 0) (by dsimp only; omega)
      have N := (Row.far8 (g := w.heap.size + 1) HRn2.out (by omega) (.int .u16 0) (.int .u16 0) (.int .u16 0) (.int .u16 0) (.int .u16 0) (.int .u16 0) (.int .u16 0) (.int .u16 0)).set 0 (.int .i64 0)
      have hbf := (below8 (g := w.heap.size + 1) HB3.out (by omega) (.int .u16 0) (.int .u16 0) (.int .u16 0) (.int .u16 0) (.int .u16 0) (.int .u16 0) (.int .u16 0) (.int .u16 0)).setCell (p := ⟨w.heap.size + 2, 0, none⟩) (by dsimp only; omega) (.int .i64 0)
      clear c0 f0 c1 f1 c2 f2 c3 f3 c4 f4 c5 f5 c6 f6 c7 f7 n0 nf
      have sc0 := (Q.cell 0).trans (show _ = some (Value.int .u16 0) from rfl)
      have sf0 := Q.frozen 0
      have sc1 := (Q.cell 1).trans (show _ = some (Value.int .u16 0) from rfl)
      have sf1 := Q.frozen 1
      have sc2 := (Q.cell 2).trans (show _ = some (Value.int .u16 0) from rfl)
      have sf2 := Q.frozen 2
      have sc3 := (Q.cell 3).trans (show _ = some (Value.int .u16 0) from rfl)
      have sf3 := Q.frozen 3
      have sc4 := (Q.cell 4).trans (show _ = some (Value.int .u16 0) from rfl)
      have sf4 := Q.frozen 4
      have sc5 := (Q.cell 5).trans (show _ = some (Value.int .u16 0) from rfl)
      have sf5 := Q.frozen 5
      have sc6 := (Q.cell 6).trans (show _ = some (Value.int .u16 0) from rfl)
      have sf6 := Q.frozen 6
      have sc7 := (Q.cell 7).trans (show _ = some (Value.int .u16 0) from rfl)
      have sf7 := Q.frozen 7
      have m0 := (N.cell 0).trans (show _ = some (Value.int .i64 0) from rfl)
      exact bodyPost_ret (v := .tuple #[arr8 (fun _ => 0), .int .i64 0, .bool false]) (by simp only [results, Tryz.results100]; simp [go_sem, sc0, sc1, sc2, sc3, sc4, sc5, sc6, sc7, m0, arr8]) rfl (by rw [HSR.out]; exact ⟨rfl, hbf⟩)
    ·rw [hcu] at hcut
     have HSM := Lib.hid (step_last hsp hr.out hv8)
     have HC := Lib.hid hcut
     clear hcut hcu hsp hr hp
     go_wp2_with fail
     refine HC.out.mono ?_
     rintro e w1 ⟨rfl, hb1⟩
     have HRd1 := Lib.hid (HRd.out.later hb1)
     have HRn1 := Lib.hid (HRn.out.later hb1)
     have HRg1 := Lib.hid (HRg.out.later hb1)
     have HB1 := Lib.hid (below_step HB.out hb1)
     clear HRd HRn HRg HB hb1 HC
     go_wp2_with fail
     refine (seq1_t d true rest hrl vs hv8 w.heap.size w.heap.size (w.heap.size + 2) (w.heap.size + 1) (by omega) (by omega) (by omega) (by omega) (by omega) w1 (hE.later HB1.out) HRd1.out HRn1.out HRg1.out).mono ?_
     rintro e w2 hP
     have hM := HSM.out
     clear HSM
     cases hq : stepV d true rest vs.length with
     | some xs =>
      rw [hq] at hP hM
      obtain ⟨rfl, Rd2, Rn2, Rg2, hb2⟩ := hP
      obtain ⟨h8, hs⟩ := hM
      have HR2 := Lib.hid (And.intro Rd2 (And.intro Rn2 (And.intro Rg2 (HB1.out.trans hb2))))
      have HS2 := Lib.hid hs
      clear Rd2 Rn2 Rg2 hb2 hs HB1 hq
      go_wp2
      exact ⟨⟨false, [], vs ++ xs, rfl, rfl, by simp, h8, HR2.out.1, HR2.out.2.1, HR2.out.2.2.1, HR2.out.2.2.2, Lib.hid (by rw [if_neg (by simp)]; exact HS2.out)⟩, by simp [mLen6]⟩
     | none =>
      rw [hq] at hP hM
      obtain ⟨rfl, Rd2, Rn2, Rg2, hb2⟩ := hP
      have HSR := Lib.hid (seqR_none h0 hM)
      have hb3 := HB1.out.trans hb2
      have c0 := (Rg2.cell 0).trans (show _ = some (Value.int .u16 (lf vs 0)) from rfl)
      have f0 := Rg2.frozen 0
      have c1 := (Rg2.cell 1).trans (show _ = some (Value.int .u16 (lf vs 1)) from rfl)
      have f1 := Rg2.frozen 1
      have c2 := (Rg2.cell 2).trans (show _ = some (Value.int .u16 (lf vs 2)) from rfl)
      have f2 := Rg2.frozen 2
      have c3 := (Rg2.cell 3).trans (show _ = some (Value.int .u16 (lf vs 3)) from rfl)
      have f3 := Rg2.frozen 3
      have c4 := (Rg2.cell 4).trans (show _ = some (Value.int .u16 (lf vs 4)) from rfl)
      have f4 := Rg2.frozen 4
      have c5 := (Rg2.cell 5).trans (show _ = some (Value.int .u16 (lf vs 5)) from rfl)
      have f5 := Rg2.frozen 5
      have c6 := (Rg2.cell 6).trans (show _ = some (Value.int .u16 (lf vs 6)) from rfl)
      have f6 := Rg2.frozen 6
      have c7 := (Rg2.cell 7).trans (show _ = some (Value.int .u16 (lf vs 7)) from rfl)
      have f7 := Rg2.frozen 7
      have n0 := (Rn2.cell 0).trans (show _ = some (Value.int .i64 (vs.length : Nat)) from rfl)
      have nf := Rn2.frozen 0
      have HRg2 := Lib.hid Rg2
      have HRn2 := Lib.hid Rn2
      have HB3 := Lib.hid hb3
      clear Rd2 Rn2 Rg2 hb2 hb3 HB1 hq hM
      go_wp2
      have Q := (Row.set8 HRg2.out (.int .u16 0) (.int .u16 0) (.int .u16 0) (.int .u16 0) (.int .u16 0) (.int .u16 0) (.int .u16 0) (.int .u16 0)).set_far ⟨w.heap.size + 2, 0, none⟩ (.int .i64 0) (by dsimp only; omega)
      have N := (Row.far8 (g := w.heap.size + 1) HRn2.out (by omega) (.int .u16 0) (.int .u16 0) (.int .u16 0) (.int .u16 0) (.int .u16 0) (.int .u16 0) (.int .u16 0) (.int .u16 0)).set 0 (.int .i64 0)
      have hbf := (below8 (g := w.heap.size + 1) HB3.out (by omega) (.int .u16 0) (.int .u16 0) (.int .u16 0) (.int .u16 0) (.int .u16 0) (.int .u16 0) (.int .u16 0) (.int .u16 0)).setCell (p := ⟨w.heap.size + 2, 0, none⟩) (by dsimp only; omega) (.int .i64 0)
      clear c0 f0 c1 f1 c2 f2 c3 f3 c4 f4 c5 f5 c6 f6 c7 f7 n0 nf
      have sc0 := (Q.cell 0).trans (show _ = some (Value.int .u16 0) from rfl)
      have sf0 := Q.frozen 0
      have sc1 := (Q.cell 1).trans (show _ = some (Value.int .u16 0) from rfl)
      have sf1 := Q.frozen 1
      have sc2 := (Q.cell 2).trans (show _ = some (Value.int .u16 0) from rfl)
      have sf2 := Q.frozen 2
      have sc3 := (Q.cell 3).trans (show _ = some (Value.int .u16 0) from rfl)
      have sf3 := Q.frozen 3
      have sc4 := (Q.cell 4).trans (show _ = some (Value.int .u16 0) from rfl)
      have sf4 := Q.frozen 4
      have sc5 := (Q.cell 5).trans (show _ = some (Value.int .u16 0) from rfl)
      have sf5 := Q.frozen 5
      have sc6 := (Q.cell 6).trans (show _ = some (Value.int .u16 0) from rfl)
      have sf6 := Q.frozen 6
      have sc7 := (Q.cell 7).trans (show _ = some (Value.int .u16 0) from rfl)
      have sf7 := Q.frozen 7
      have m0 := (N.cell 0).trans (show _ = some (Value.int .i64 0) from rfl)
      exact bodyPost_ret (v := .tuple #[arr8 (fun _ => 0), .int .i64 0, .bool false]) (by simp only [results, Tryz.results100]; simp [go_sem, sc0, sc1, sc2, sc3, sc4, sc5, sc6, sc7, m0, arr8]) rfl (by rw [HSR.out]; exact ⟨rfl, hbf⟩)
   | false =>
    have hs : seqV d (splitC l) = some vs := by have := hr.out; rwa [if_neg (by simp)] at this
    have HSR := Lib.hid (seqR_some h0 hs hv8)
    clear hs hr
    have Rg2 := HRg.out
    have Rn2 := HRn.out
    have c0 := (Rg2.cell 0).trans (show _ = some (Value.int .u16 (lf vs 0)) from rfl)
    have f0 := Rg2.frozen 0
    have c1 := (Rg2.cell 1).trans (show _ = some (Value.int .u16 (lf vs 1)) from rfl)
    have f1 := Rg2.frozen 1
    have c2 := (Rg2.cell 2).trans (show _ = some (Value.int .u16 (lf vs 2)) from rfl)
    have f2 := Rg2.frozen 2
    have c3 := (Rg2.cell 3).trans (show _ = some (Value.int .u16 (lf vs 3)) from rfl)
    have f3 := Rg2.frozen 3
    have c4 := (Rg2.cell 4).trans (show _ = some (Value.int .u16 (lf vs 4)) from rfl)
    have f4 := Rg2.frozen 4
    have c5 := (Rg2.cell 5).trans (show _ = some (Value.int .u16 (lf vs 5)) from rfl)
    have f5 := Rg2.frozen 5
    have c6 := (Rg2.cell 6).trans (show _ = some (Value.int .u16 (lf vs 6)) from rfl)
    have f6 := Rg2.frozen 6
    have c7 := (Rg2.cell 7).trans (show _ = some (Value.int .u16 (lf vs 7)) from rfl)
    have f7 := Rg2.frozen 7
    have n0 := (Rn2.cell 0).trans (show _ = some (Value.int .i64 (vs.length : Nat)) from rfl)
    have nf := Rn2.frozen 0
    clear Rg2 Rn2
    go_wp2_with fail
    go_region
    go_wp2
    have Q := ((Row.set8 HRg.out (.int .u16 (lf vs 0)) (.int .u16 (lf vs 1)) (.int .u16 (lf vs 2)) (.int .u16 (lf vs 3)) (.int .u16 (lf vs 4)) (.int .u16 (lf vs 5)) (.int .u16 (lf vs 6)) (.int .u16 (lf vs 7))).set_far ⟨w.heap.size + 2, 0, none⟩ (.int .i64 (vs.length : Nat)) (by dsimp only; omega)).drew
    have N := ((Row.far8 (g := w.heap.size + 1) HRn.out (by omega) (.int .u16 (lf vs 0)) (.int .u16 (lf vs 1)) (.int .u16 (lf vs 2)) (.int .u16 (lf vs 3)) (.int .u16 (lf vs 4)) (.int .u16 (lf vs 5)) (.int .u16 (lf vs 6)) (.int .u16 (lf vs 7))).set 0 (.int .i64 (vs.length : Nat))).drew
    have hbf := ((below8 (g := w.heap.size + 1) HB.out (by omega) (.int .u16 (lf vs 0)) (.int .u16 (lf vs 1)) (.int .u16 (lf vs 2)) (.int .u16 (lf vs 3)) (.int .u16 (lf vs 4)) (.int .u16 (lf vs 5)) (.int .u16 (lf vs 6)) (.int .u16 (lf vs 7))).setCell (p := ⟨w.heap.size + 2, 0, none⟩) (by dsimp only; omega) (.int .i64 (vs.length : Nat))).drew
    clear c0 f0 c1 f1 c2 f2 c3 f3 c4 f4 c5 f5 c6 f6 c7 f7 n0 nf
    have sc0 := (Q.cell 0).trans (show _ = some (Value.int .u16 (lf vs 0)) from rfl)
    have sf0 := Q.frozen 0
    have sc1 := (Q.cell 1).trans (show _ = some (Value.int .u16 (lf vs 1)) from rfl)
    have sf1 := Q.frozen 1
    have sc2 := (Q.cell 2).trans (show _ = some (Value.int .u16 (lf vs 2)) from rfl)
    have sf2 := Q.frozen 2
    have sc3 := (Q.cell 3).trans (show _ = some (Value.int .u16 (lf vs 3)) from rfl)
    have sf3 := Q.frozen 3
    have sc4 := (Q.cell 4).trans (show _ = some (Value.int .u16 (lf vs 4)) from rfl)
    have sf4 := Q.frozen 4
    have sc5 := (Q.cell 5).trans (show _ = some (Value.int .u16 (lf vs 5)) from rfl)
    have sf5 := Q.frozen 5
    have sc6 := (Q.cell 6).trans (show _ = some (Value.int .u16 (lf vs 6)) from rfl)
    have sf6 := Q.frozen 6
    have sc7 := (Q.cell 7).trans (show _ = some (Value.int .u16 (lf vs 7)) from rfl)
    have sf7 := Q.frozen 7
    have m0 := (N.cell 0).trans (show _ = some (Value.int .i64 (vs.length : Nat)) from rfl)
    exact bodyPost_ret (v := .tuple #[arr8 (lf vs), .int .i64 (vs.length : Nat), .bool true]) (by simp only [results, Tryz.results100]; simp [go_sem, sc0, sc1, sc2, sc3, sc4, sc5, sc6, sc7, m0, arr8]) rfl (by rw [HSR.out]; exact ⟨rfl, hbf⟩)
theorem arrLen8 : Tryz.prog.arrayLen 107 = 8 := by kernel_rfl
theorem arrElem8 : Tryz.prog.elem 107 = 106 := by kernel_rfl
theorem arrU8 : Tryz.prog.underlying 107 = some (.array (Tryz.prog.arrayLen 107) (Tryz.prog.elem 107)) := by rw [arrLen8, arrElem8]; exact Tryz.underlying107
theorem cutL8 (w : World) (g k : Nat) (h : k ≤ 8) : (Instr.sliceAt 107 (.pointer (some ⟨g, 0, none⟩)) (some (.int .i64 (k : Int))) none none).run Tryz.prog w = .ok (.slice (some ⟨g, if k = 8 then 0 else k, none⟩) (8 - k) (8 - k)) w := by
 rw [run_sliceAt_array_l (P := Tryz.prog) w 107 ⟨g, 0, none⟩ arrU8 .i64 (k : Int) (by omega) (by rw [arrLen8]; omega)]
 rw [arrLen8, arrElem8]
 by_cases e : k = 8
 ·subst e; simp [go_sem]
 ·have e' : ¬ 8 = k := fun h => e h.symm
  simp [go_sem, e, e']
theorem cutH8 (w : World) (g k : Nat) (h : k ≤ 8) : (Instr.sliceAt 107 (.pointer (some ⟨g, 0, none⟩)) none (some (.int .i64 (k : Int))) none).run Tryz.prog w = .ok (.slice (some ⟨g, 0, none⟩) k 8) w := by
 rw [run_sliceAt_array_h (P := Tryz.prog) w 107 ⟨g, 0, none⟩ arrU8 .i64 (k : Int) (by omega) (by rw [arrLen8]; omega)]
 rw [arrLen8, arrElem8]
 simp [go_sem]
theorem cutAll8 (w : World) (g : Nat) : (Instr.sliceAt 107 (.pointer (some ⟨g, 0, none⟩)) none none none).run Tryz.prog w = .ok (.slice (some ⟨g, 0, none⟩) 8 8) w := by
 rw [run_sliceAt_array_all (P := Tryz.prog) w 107 ⟨g, 0, none⟩ arrU8]
 rw [arrLen8, arrElem8]
 simp [go_sem]
theorem u16size : (Tryz.prog.info? 106).map (·.size) = some 1 := by kernel_rfl
theorem parse6_seqR (l : List UInt8) : parse6 l = match seqR (!(cc l).2.2) (cc l).1, seqR true (cc l).2.1 with
  | some u, some v => if fits (cc l).2.2 u v = true then some (u ++ List.replicate (8 - u.length - v.length) 0 ++ v) else none
  | _, _ => none := by
 unfold parse6 seqR
 have hcv : (cc l).2.2 = false → (cc l).2.1 = [] := by
  unfold cc Lib.cut
  split <;> simp
 cases hu : readV (!(cc l).2.2) (cc l).1 with
 | none => rfl
 | some u =>
  cases hv : readV true (cc l).2.1 with
  | none =>
   dsimp only
   split
   ·rename_i h; cases h
   ·rfl
  | some v =>
   dsimp only
   have hf : fits (cc l).2.2 u v = true → u.length ≤ 8 ∧ v.length ≤ 8 := fun h => by
    unfold fits at h
    cases hc : (cc l).2.2 with
    | true => rw [hc] at h; simp at h; omega
    | false =>
     rw [hc] at h; simp at h
     rw [hcv hc] at hv
     unfold readV at hv
     rw [if_pos rfl] at hv
     cases hv
     simp; omega
   by_cases hq : fits (cc l).2.2 u v = true
   ·rw [if_pos hq, if_pos (hf hq).1, if_pos (hf hq).2]
    simp only [if_pos hq]
   ·rw [if_neg hq]
    split
    ·rename_i a b h1 h2
     split at h1
     ·cases h1
      split at h2
      ·cases h2; rw [if_neg hq]
      ·cases h2
     ·cases h1
    ·rfl
theorem cc_len (l : List UInt8) : (cc l).1.length ≤ l.length ∧ (cc l).2.1.length ≤ l.length := by
 unfold cc Lib.cut
 split
 ·simp; omega
 ·simp
theorem lf_range {vs : List Nat} (h : ∀ v ∈ vs, v ≤ 65535) (i : Nat) : 0 ≤ lf vs i ∧ lf vs i ≤ 65535 := by
 unfold lf
 by_cases hi : i < vs.length
 ·have := h _ (List.getElem_mem hi)
  simp [List.getElem?_eq_getElem hi]
  omega
 ·simp [List.getElem?_eq_none (show vs.length ≤ i by omega)]
theorem seqR_is {d : Bool} {l : List UInt8} {vs : List Nat} (h : seqR d l = some vs) : readV d l = some vs ∧ vs.length ≤ 8 := by
 unfold seqR at h
 split at h
 ·rename_i us hu
  split at h
  ·cases h; exact ⟨hu, by assumption⟩
  ·cases h
 ·cases h
def valsV (vs : List Nat) : List Value := vs.map fun (v : Nat) => Value.int .u16 (v : Int)
theorem valsV_get (vs : List Nat) (j : Nat) (h : j < vs.length) : (valsV vs)[j]? = some (.int .u16 (lf vs j)) := by
 unfold valsV lf
 simp [List.getElem?_map, List.getElem?_eq_getElem h]
theorem splice_cells (u v : List Nat) (h : u.length + v.length ≤ 8) : (Go.splice (cellsV u).toList (8 - v.length) (valsV v)).toArray = cellsV (u ++ List.replicate (8 - u.length - v.length) 0 ++ v) := by
 have hvl : (valsV v).length = v.length := by simp [valsV]
 apply Array.ext_getElem?
 intro i
 rw [List.getElem?_toArray]
 unfold Go.splice
 by_cases hi : i < 8
 ·rw [cellsV_get _ i hi]
  by_cases h1 : i < 8 - v.length
  ·rw [List.getElem?_append_left (by simp [cellsV_size]; omega), List.getElem?_take_of_lt h1]
   rw [Array.getElem?_toList, cellsV_get u i hi]
   congr 2
   unfold lf
   congr 1
   by_cases h2 : i < u.length
   ·simp [List.append_assoc, List.getElem?_append_left h2]
   ·rw [List.append_assoc, List.getD, List.getD, List.getElem?_append_right (by omega), List.getElem?_append_left (by simp; omega)]
    simp [List.getElem?_eq_none (show u.length ≤ i by omega), List.getElem?_replicate]
    split <;> rfl
  ·rw [List.getElem?_append_right (by simp [cellsV_size]; omega)]
   have e1 : i - (List.take (8 - v.length) (cellsV u).toList).length = i - (8 - v.length) := by simp [cellsV_size]
   rw [e1, List.getElem?_append_left (by rw [hvl]; omega), valsV_get v _ (by omega)]
   congr 2
   unfold lf
   congr 1
   rw [List.getD, List.getD, List.getElem?_append_right (by simp; omega)]
   congr 2
   simp
   omega
 ·rw [Array.getElem?_eq_none (by rw [cellsV_size]; omega), List.getElem?_eq_none]
  simp [cellsV_size, hvl]
  omega
theorem valsV_one (v : List Nat) : ∀ x ∈ valsV v, x.oneCell' = true := by
 intro x hx
 unfold valsV at hx
 obtain ⟨a, _, rfl⟩ := List.mem_map.1 hx
 rfl
def ParPost (o : Option (List Nat)) (w : World) (e : Ending) (w' : World) : Prop := (match o with
 | some gs => e = .returned (.tuple #[.agg #[.int .u64 (hi (ofN (lf gs) 8)), .int .u64 (lo (ofN (lf gs) 8))], .int .i64 0])
 | none => e = .returned (.tuple #[.agg #[.int .u64 0, .int .u64 0], .int .i64 3])) ∧ Below w.heap.size w w'
theorem parse6_t (l : List UInt8) (hl : l.length ≤ 4000000000) (w : World) (hE : Env w) : Calls Tryz.prog 57 #[.string ⟨l.toArray⟩] w (ParPost (parse6 l) w) := by
 have hcl := cc_len l
 have HP0 := Lib.hid (parse6_seqR l)
 have hcut := fun w0 (h : Env w0) => cutb_t l [58, 58] hl w0 h
 have hcc : Lib.cut l [58, 58] = cc l := rfl
 rw [hcc] at hcut
 obtain ⟨⟨b, a, short⟩, hc⟩ : ∃ c, c = cc l := ⟨_, rfl⟩
 rw [← hc] at hcut hcl HP0
 dsimp only at hcut hcl HP0
 have HSA : Hid (short = false → a = []) := Lib.hid (by
  intro hs
  have h2 : short = (cc l).2.2 := by rw [← hc]
  have h3 : a = (cc l).2.1 := by rw [← hc]
  rw [h2] at hs
  rw [h3]
  revert hs
  unfold cc Lib.cut
  split <;> simp)
 clear hc hcc
 generalize parse6 l = pr at *
 go_enter Tryz.func57, Tryz.ntmps57
 go_wp2_with fail
 have R0 := Row.new w #[.int .u64 0, .int .u64 0] 73
 have hb0 : Below w.heap.size w (w.alloc (.cells #[.int .u64 0, .int .u64 0] 73)) := (Below.refl _ _).alloc (Nat.le_refl _) _
 generalize w.alloc (.cells #[.int .u64 0, .int .u64 0] 73) = w0 at *
 refine (hcut w0 (hE.later hb0)).mono ?_
 rintro e w1 ⟨rfl, hb1⟩
 have HR := Lib.hid (R0.later hb1)
 have HB := Lib.hid (below_step hb0 hb1)
 clear R0 hb0 hb1 hcut
 have hS1 := seq_t (!short) b (by omega) w1 (hE.later HB.out)
 have HS1 := Lib.hid hS1
 clear hS1
 go_wp2_with fail
 refine HS1.out.mono ?_
 rintro e w2 hP
 clear HS1
 cases hu : seqR (!short) b with
 | none =>
  rw [hu] at hP
  obtain ⟨rfl, hb2⟩ := hP
  have HP : Hid (pr = none) := Lib.hid (by have := HP0.out; rw [hu] at this; exact this)
  have HR2 := Lib.hid (HR.out.later hb2)
  have HB2 := Lib.hid (below_step HB.out hb2)
  clear HR HB hb2 hu HP0
  unfold arr8
  have r0 := (HR2.out.cell 0).trans (show _ = some (Value.int .u64 0) from rfl)
  have r1 := (HR2.out.cell 1).trans (show _ = some (Value.int .u64 0) from rfl)
  have f0 := HR2.out.frozen 0
  have f1 := HR2.out.frozen 1
  have hlt := HR2.out.lt
  have hne : ¬ w2.heap.size = w.heap.size := by omega
  have hne' : ¬ w.heap.size = w2.heap.size := by omega
  go_wp2
  have Q2 := ((HR2.out.set 0 (.int .u64 0)).set 1 (.int .u64 0)).alloc (.cells #[.int .u16 0, .int .u16 0, .int .u16 0, .int .u16 0, .int .u16 0, .int .u16 0, .int .u16 0, .int .u16 0] 107)
  have s0 := (Q2.cell 0).trans (show _ = some (Value.int .u64 0) from rfl)
  have s1 := (Q2.cell 1).trans (show _ = some (Value.int .u64 0) from rfl)
  have hbf := ((HB2.out.setCell (p := ⟨w.heap.size, 0, none⟩) (Nat.le_refl _) (.int .u64 0)).setCell (p := ⟨w.heap.size, 1, none⟩) (Nat.le_refl _) (.int .u64 0)).alloc (by simp; omega) (.cells #[.int .u16 0, .int .u16 0, .int .u16 0, .int .u16 0, .int .u16 0, .int .u16 0, .int .u16 0, .int .u16 0] 107)
  clear r0 r1 f0 f1
  exact bodyPost_ret (v := .tuple #[.agg #[.int .u64 0, .int .u64 0], .int .i64 3]) (by simp only [results, Tryz.results57]; simp [go_sem, s0, s1]) rfl (by rw [HP.out]; exact ⟨rfl, hbf⟩)
 | some u =>
  rw [hu] at hP
  obtain ⟨rfl, hb2⟩ := hP
  have HR2 := Lib.hid (HR.out.later hb2)
  have HB2 := Lib.hid (below_step HB.out hb2)
  have hu8 := (seqR_is hu).2
  have HUL := Lib.hid (readV_lt (seqR_is hu).1)
  have HP1 : Hid (pr = match seqR true a with | some v => if fits short u v = true then some (u ++ List.replicate (8 - u.length - v.length) 0 ++ v) else none | none => none) := Lib.hid (by have := HP0.out; rw [hu] at this; rw [this]; cases seqR true a <;> rfl)
  clear HR HB hb2 hu HP0
  unfold arr8
  have hS2 := fun w3 (h : Env w3) => seq_t true a (by omega) w3 h
  have HS2 := Lib.hid hS2
  clear hS2
  go_wp2_with fail
  have Rgw3 := Row.new w2 #[.int .u16 (lf u 0), .int .u16 (lf u 1), .int .u16 (lf u 2), .int .u16 (lf u 3), .int .u16 (lf u 4), .int .u16 (lf u 5), .int .u16 (lf u 6), .int .u16 (lf u 7)] 107
  have hbw3 : Below w2.heap.size w2 (w2.alloc (.cells #[.int .u16 (lf u 0), .int .u16 (lf u 1), .int .u16 (lf u 2), .int .u16 (lf u 3), .int .u16 (lf u 4), .int .u16 (lf u 5), .int .u16 (lf u 6), .int .u16 (lf u 7)] 107)) := (Below.refl _ _).alloc (Nat.le_refl _) _
  generalize (w2.alloc (.cells #[.int .u16 (lf u 0), .int .u16 (lf u 1), .int .u16 (lf u 2), .int .u16 (lf u 3), .int .u16 (lf u 4), .int .u16 (lf u 5), .int .u16 (lf u 6), .int .u16 (lf u 7)] 107)) = w3 at *
  have HR3 := Lib.hid (HR2.out.later hbw3)
  have HB3 := Lib.hid (below_step HB2.out hbw3)
  have HG := Lib.hid Rgw3
  have hg1 := HR2.out.lt
  generalize hg : w2.heap.size = g at *
  have hgw : w.heap.size < g := by omega
  clear HR2 HB2 hbw3 Rgw3 hg hg1
  refine (HS2.out w3 (hE.later HB3.out)).mono ?_
  rintro e w4 hP
  clear HS2
  cases hv : seqR true a with
  | none =>
   rw [hv] at hP
   obtain ⟨rfl, hb4⟩ := hP
   have HP : Hid (pr = none) := Lib.hid (by have := HP1.out; rw [hv] at this; exact this)
   have HR4 := Lib.hid (HR3.out.later hb4)
   have HB4 := Lib.hid (below_step HB3.out hb4)
   clear HR3 HB3 hb4 hv HP1 HG
   unfold arr8
   have r0 := (HR4.out.cell 0).trans (show _ = some (Value.int .u64 0) from rfl)
   have r1 := (HR4.out.cell 1).trans (show _ = some (Value.int .u64 0) from rfl)
   have f0 := HR4.out.frozen 0
   have f1 := HR4.out.frozen 1
   have hlt := HR4.out.lt
   have hne : ¬ w4.heap.size = w.heap.size := by omega
   have hne' : ¬ w.heap.size = w4.heap.size := by omega
   go_wp2
   have Q2 := ((HR4.out.set 0 (.int .u64 0)).set 1 (.int .u64 0)).alloc (.cells #[.int .u16 0, .int .u16 0, .int .u16 0, .int .u16 0, .int .u16 0, .int .u16 0, .int .u16 0, .int .u16 0] 107)
   have s0 := (Q2.cell 0).trans (show _ = some (Value.int .u64 0) from rfl)
   have s1 := (Q2.cell 1).trans (show _ = some (Value.int .u64 0) from rfl)
   have hbf := ((HB4.out.setCell (p := ⟨w.heap.size, 0, none⟩) (Nat.le_refl _) (.int .u64 0)).setCell (p := ⟨w.heap.size, 1, none⟩) (Nat.le_refl _) (.int .u64 0)).alloc (by simp; omega) (.cells #[.int .u16 0, .int .u16 0, .int .u16 0, .int .u16 0, .int .u16 0, .int .u16 0, .int .u16 0, .int .u16 0] 107)
   clear r0 r1 f0 f1
   exact bodyPost_ret (v := .tuple #[.agg #[.int .u64 0, .int .u64 0], .int .i64 3]) (by simp only [results, Tryz.results57]; simp [go_sem, s0, s1]) rfl (by rw [HP.out]; exact ⟨rfl, hbf⟩)
  | some v =>
   rw [hv] at hP
   obtain ⟨rfl, hb4⟩ := hP
   have HR4 := Lib.hid (HR3.out.later hb4)
   have HB4 := Lib.hid (below_step HB3.out hb4)
   have HG4 := Lib.hid (HG.out.later hb4)
   have hv8 := (seqR_is hv).2
   have HVL := Lib.hid (readV_lt (seqR_is hv).1)
   have HVS : Hid (short = false → v = []) := Lib.hid (fun h => by
    have h1 := (seqR_is hv).1
    rw [HSA.out h] at h1
    unfold readV at h1
    rw [if_pos rfl] at h1
    cases h1; rfl)
   have HP2 : Hid (pr = if fits short u v = true then some (u ++ List.replicate (8 - u.length - v.length) 0 ++ v) else none) := Lib.hid (by have := HP1.out; rw [hv] at this; exact this)
   clear HR3 HB3 hb4 hv HP1 HG
   unfold arr8
   have hcs : (fits short u v = false ∧ ((short = true ∧ 8 ≤ u.length + v.length) ∨ (short = false ∧ u.length ≠ 8))) ∨ (fits short u v = true ∧ ((short = true ∧ u.length + v.length ≤ 7) ∨ (short = false ∧ u.length = 8))) := by
    unfold fits
    cases short <;> simp <;> omega
   have hnn : u.length + v.length ≤ 16 := by omega
   rcases hcs with ⟨hft, ⟨rfl, h9⟩ | ⟨rfl, h9⟩⟩ | ⟨hft, hok⟩
   ·have HP : Hid (pr = none) := Lib.hid (by rw [HP2.out, hft]; rfl)
    have h9' : (8 : Int) ≤ (u.length : Int) + (v.length : Int) := by omega
    clear HP2 hft HG4 HUL HVL
    have r0 := (HR4.out.cell 0).trans (show _ = some (Value.int .u64 0) from rfl)
    have r1 := (HR4.out.cell 1).trans (show _ = some (Value.int .u64 0) from rfl)
    have f0 := HR4.out.frozen 0
    have f1 := HR4.out.frozen 1
    have hlt := HR4.out.lt
    have hne : ¬ w4.heap.size = w.heap.size := by omega
    have hne' : ¬ w.heap.size = w4.heap.size := by omega
    go_wp2
    have Q2 := ((HR4.out.set 0 (.int .u64 0)).set 1 (.int .u64 0)).alloc (.cells #[.int .u16 (lf v 0), .int .u16 (lf v 1), .int .u16 (lf v 2), .int .u16 (lf v 3), .int .u16 (lf v 4), .int .u16 (lf v 5), .int .u16 (lf v 6), .int .u16 (lf v 7)] 107)
    have s0 := (Q2.cell 0).trans (show _ = some (Value.int .u64 0) from rfl)
    have s1 := (Q2.cell 1).trans (show _ = some (Value.int .u64 0) from rfl)
    have hbf := ((HB4.out.setCell (p := ⟨w.heap.size, 0, none⟩) (Nat.le_refl _) (.int .u64 0)).setCell (p := ⟨w.heap.size, 1, none⟩) (Nat.le_refl _) (.int .u64 0)).alloc (by simp; omega) (.cells #[.int .u16 (lf v 0), .int .u16 (lf v 1), .int .u16 (lf v 2), .int .u16 (lf v 3), .int .u16 (lf v 4), .int .u16 (lf v 5), .int .u16 (lf v 6), .int .u16 (lf v 7)] 107)
    clear r0 r1 f0 f1
    exact bodyPost_ret (v := .tuple #[.agg #[.int .u64 0, .int .u64 0], .int .i64 3]) (by simp only [results, Tryz.results57]; simp [go_sem, s0, s1]) rfl (by rw [HP.out]; exact ⟨rfl, hbf⟩)
   ·have HP : Hid (pr = none) := Lib.hid (by rw [HP2.out, hft]; rfl)
    have h9' : ¬ (u.length : Int) = 8 := by omega
    clear HP2 hft HG4 HUL HVL
    have r0 := (HR4.out.cell 0).trans (show _ = some (Value.int .u64 0) from rfl)
    have r1 := (HR4.out.cell 1).trans (show _ = some (Value.int .u64 0) from rfl)
    have f0 := HR4.out.frozen 0
    have f1 := HR4.out.frozen 1
    have hlt := HR4.out.lt
    have hne : ¬ w4.heap.size = w.heap.size := by omega
    have hne' : ¬ w.heap.size = w4.heap.size := by omega
    go_wp2
    have Q2 := ((HR4.out.set 0 (.int .u64 0)).set 1 (.int .u64 0)).alloc (.cells #[.int .u16 (lf v 0), .int .u16 (lf v 1), .int .u16 (lf v 2), .int .u16 (lf v 3), .int .u16 (lf v 4), .int .u16 (lf v 5), .int .u16 (lf v 6), .int .u16 (lf v 7)] 107)
    have s0 := (Q2.cell 0).trans (show _ = some (Value.int .u64 0) from rfl)
    have s1 := (Q2.cell 1).trans (show _ = some (Value.int .u64 0) from rfl)
    have hbf := ((HB4.out.setCell (p := ⟨w.heap.size, 0, none⟩) (Nat.le_refl _) (.int .u64 0)).setCell (p := ⟨w.heap.size, 1, none⟩) (Nat.le_refl _) (.int .u64 0)).alloc (by simp; omega) (.cells #[.int .u16 (lf v 0), .int .u16 (lf v 1), .int .u16 (lf v 2), .int .u16 (lf v 3), .int .u16 (lf v 4), .int .u16 (lf v 5), .int .u16 (lf v 6), .int .u16 (lf v 7)] 107)
    clear r0 r1 f0 f1
    exact bodyPost_ret (v := .tuple #[.agg #[.int .u64 0, .int .u64 0], .int .i64 3]) (by simp only [results, Tryz.results57]; simp [go_sem, s0, s1]) rfl (by rw [HP.out]; exact ⟨rfl, hbf⟩)
   ·have HP := Lib.hid (HP2.out.trans (by rw [hft]; rfl) : pr = some (u ++ List.replicate (8 - u.length - v.length) 0 ++ v))
    clear HP2 hft
    rcases hok with ⟨rfl, h9⟩ | ⟨rfl, h9⟩
    ·have huv : u.length + v.length ≤ 8 := by omega
     have h9' : (u.length : Int) + (v.length : Int) < 8 := by omega
     have qw : IntKind.i64.wrap (8 - (v.length : Int)) = 8 - (v.length : Int) := by simp [IntKind.wrap, IntKind.bits, IntKind.signed]; omega
     clear HVS
     go_wp2_with fail
     have Rgw5 := Row.new w4 #[.int .u16 (lf v 0), .int .u16 (lf v 1), .int .u16 (lf v 2), .int .u16 (lf v 3), .int .u16 (lf v 4), .int .u16 (lf v 5), .int .u16 (lf v 6), .int .u16 (lf v 7)] 107
     have hbw5 : Below w4.heap.size w4 (w4.alloc (.cells #[.int .u16 (lf v 0), .int .u16 (lf v 1), .int .u16 (lf v 2), .int .u16 (lf v 3), .int .u16 (lf v 4), .int .u16 (lf v 5), .int .u16 (lf v 6), .int .u16 (lf v 7)] 107)) := (Below.refl _ _).alloc (Nat.le_refl _) _
     generalize (w4.alloc (.cells #[.int .u16 (lf v 0), .int .u16 (lf v 1), .int .u16 (lf v 2), .int .u16 (lf v 3), .int .u16 (lf v 4), .int .u16 (lf v 5), .int .u16 (lf v 6), .int .u16 (lf v 7)] 107)) = w5 at *
     have HR5 := Lib.hid (HR4.out.later hbw5)
     have HB5 := Lib.hid (below_step HB4.out hbw5)
     have HG5 := Lib.hid (HG4.out.later hbw5)
     have HT5 := Lib.hid Rgw5
     have hg4 := HG4.out.lt
     generalize hgt : w4.heap.size = gt at *
     clear HR4 HB4 HG4 hbw5 Rgw5 hgt
     obtain ⟨o8, ho8⟩ : ∃ o8 : Nat, o8 = if 8 - v.length = 8 then 0 else 8 - v.length := ⟨_, rfl⟩
     have hcL : ∀ wq : World, (Instr.sliceAt 107 (.pointer (some ⟨g, 0, none⟩)) (some (.int .i64 (8 - (v.length : Int)))) none none).run Tryz.prog wq = .ok (.slice (some ⟨g, o8, none⟩) v.length v.length) wq := fun wq => by
      have h := cutL8 wq g (8 - v.length) (by omega)
      rw [← ho8, show ((8 - v.length : Nat) : Int) = 8 - (v.length : Int) by omega, show 8 - (8 - v.length) = v.length by omega] at h
      exact h
     have hcH : ∀ wq : World, (Instr.sliceAt 107 (.pointer (some ⟨gt, 0, none⟩)) none (some (.int .i64 (v.length : Int))) none).run Tryz.prog wq = .ok (.slice (some ⟨gt, 0, none⟩) v.length 8) wq := fun wq => cutH8 wq gt v.length hv8
     have HROW : Hid (w5.drew.heap[g]? = some (.cells (cellsV u).toList.toArray 107 (0, 0))) := Lib.hid (by rw [Array.toArray_toList]; exact HG5.out.drew)
     have HPOS : Hid (0 < (valsV v).length → (some (⟨g, o8, none⟩ : Addr)) = some ⟨g, 8 - v.length, none⟩ ∧ ∃ ad : Addr, (some (⟨gt, 0, none⟩ : Addr)) = some ad ∧ ∀ j x, (valsV v)[j]? = some x → w5.drew.cell? (ad.add j) = some x) := Lib.hid (by
      intro hp
      have hp' : 0 < v.length := by simpa [valsV] using hp
      refine ⟨by rw [ho8, if_neg (by omega)], ⟨gt, 0, none⟩, rfl, fun j x hx => ?_⟩
      have hj : j < v.length := by have := (List.getElem?_eq_some_iff.1 hx).1; simpa [valsV] using this
      rw [valsV_get v j hj] at hx
      cases hx
      rw [Addr.add_mid, Nat.zero_add]
      exact (HT5.out.drew.cell j).trans (cellsV_get v j (by omega)))
     have hvl : (valsV v).length = v.length := by simp [valsV]
     have HNN : Hid ((valsV v).length = Nat.min v.length v.length) := Lib.hid (by rw [hvl]; exact (Nat.min_self _).symm)
     have HFIT : Hid (8 - v.length + (valsV v).length ≤ (cellsV u).toList.length) := Lib.hid (by rw [hvl]; simp [cellsV_size]; omega)
     clear hvl ho8
     go_region_law (refine step_copy_splice rfl (.tmp 57) (.tmp 59) 112 112 rfl 106 Tryz.underlying112 u16size (some ⟨g, o8, none⟩) (some ⟨gt, 0, none⟩) v.length v.length v.length 8 (by simp [Act.eval, Act.put]) (by simp [Act.eval, Act.put]) g (8 - v.length) (cellsV u).toList 107 HROW.out (valsV v) HNN.out HPOS.out HFIT.out (valsV_one v) g w5.drew (Below.refl _ _) (Nat.le_refl _) ?_; intro w6 hg6 hb6)
     have HR6 := Lib.hid (HR5.out.drew.below hb6 hgw)
     have HB6 := Lib.hid (HB5.out.drew.trans (hb6.mono (Nat.le_of_lt hgw)))
     have R6 : Row w6 g (cellsV (u ++ List.replicate (8 - u.length - v.length) 0 ++ v)) 107 := by have := hg6.out; rw [splice_cells u v huv] at this; exact this
     have hrg : ∀ x ∈ u ++ List.replicate (8 - u.length - v.length) 0 ++ v, x ≤ 65535 := fun x hx => by
      simp only [List.mem_append, List.mem_replicate] at hx
      rcases hx with (hx | hx) | hx
      ·exact HUL.out x hx
      ·omega
      ·exact HVL.out x hx
     have HLR := Lib.hid (lf_range hrg)
     generalize u ++ List.replicate (8 - u.length - v.length) 0 ++ v = gs at *
     have xc0 := (R6.cell 0).trans (show _ = some (Value.int .u16 (lf gs 0)) from rfl)
     have xc1 := (R6.cell 1).trans (show _ = some (Value.int .u16 (lf gs 1)) from rfl)
     have xc2 := (R6.cell 2).trans (show _ = some (Value.int .u16 (lf gs 2)) from rfl)
     have xc3 := (R6.cell 3).trans (show _ = some (Value.int .u16 (lf gs 3)) from rfl)
     have xc4 := (R6.cell 4).trans (show _ = some (Value.int .u16 (lf gs 4)) from rfl)
     have xc5 := (R6.cell 5).trans (show _ = some (Value.int .u16 (lf gs 5)) from rfl)
     have xc6 := (R6.cell 6).trans (show _ = some (Value.int .u16 (lf gs 6)) from rfl)
     have xc7 := (R6.cell 7).trans (show _ = some (Value.int .u16 (lf gs 7)) from rfl)
     clear HG5 HT5 HROW HPOS HNN HFIT HR5 HB5 hg6 hb6 R6 hcL hcH hrg HUL HVL
     go_wp2_with fail
     refine (of8_t (lf gs) HLR.out w6).mono ?_
     rintro e w7 ⟨rfl, hb7⟩
     have HR7 := Lib.hid (HR6.out.later hb7)
     have HB7 := Lib.hid (below_step HB6.out hb7)
     clear HR6 HB6 hb7 HLR xc0 xc1 xc2 xc3 xc4 xc5 xc6 xc7
     have r0 := (HR7.out.cell 0).trans (show _ = some (Value.int .u64 0) from rfl)
     have r1 := (HR7.out.cell 1).trans (show _ = some (Value.int .u64 0) from rfl)
     have f0 := HR7.out.frozen 0
     have f1 := HR7.out.frozen 1
     go_wp2
     have Q2 := (HR7.out.set 0 (.int .u64 (hi (ofN (lf gs) 8)))).set 1 (.int .u64 (lo (ofN (lf gs) 8)))
     have s0 := (Q2.cell 0).trans (show _ = some (Value.int .u64 (hi (ofN (lf gs) 8))) from rfl)
     have s1 := (Q2.cell 1).trans (show _ = some (Value.int .u64 (lo (ofN (lf gs) 8))) from rfl)
     clear r0 r1 f0 f1
     exact bodyPost_ret (v := .tuple #[.agg #[.int .u64 (hi (ofN (lf gs) 8)), .int .u64 (lo (ofN (lf gs) 8))], .int .i64 0]) (by simp only [results, Tryz.results57]; simp [go_sem, s0, s1]) rfl (by rw [HP.out]; exact ⟨rfl, (HB7.out.setCell (p := ⟨w.heap.size, 0, none⟩) (Nat.le_refl _) _).setCell (p := ⟨w.heap.size, 1, none⟩) (Nat.le_refl _) _⟩)
    ·have huv : u.length + v.length ≤ 8 := by have h0 : v.length = 0 := (by rw [HVS.out rfl]; rfl); omega
     have h9' : (u.length : Int) = 8 := by omega
     have qw : IntKind.i64.wrap (8 - (v.length : Int)) = 8 - (v.length : Int) := by simp [IntKind.wrap, IntKind.bits, IntKind.signed]; omega
     clear HVS
     go_wp2_with fail
     have Rgw5 := Row.new w4 #[.int .u16 (lf v 0), .int .u16 (lf v 1), .int .u16 (lf v 2), .int .u16 (lf v 3), .int .u16 (lf v 4), .int .u16 (lf v 5), .int .u16 (lf v 6), .int .u16 (lf v 7)] 107
     have hbw5 : Below w4.heap.size w4 (w4.alloc (.cells #[.int .u16 (lf v 0), .int .u16 (lf v 1), .int .u16 (lf v 2), .int .u16 (lf v 3), .int .u16 (lf v 4), .int .u16 (lf v 5), .int .u16 (lf v 6), .int .u16 (lf v 7)] 107)) := (Below.refl _ _).alloc (Nat.le_refl _) _
     generalize (w4.alloc (.cells #[.int .u16 (lf v 0), .int .u16 (lf v 1), .int .u16 (lf v 2), .int .u16 (lf v 3), .int .u16 (lf v 4), .int .u16 (lf v 5), .int .u16 (lf v 6), .int .u16 (lf v 7)] 107)) = w5 at *
     have HR5 := Lib.hid (HR4.out.later hbw5)
     have HB5 := Lib.hid (below_step HB4.out hbw5)
     have HG5 := Lib.hid (HG4.out.later hbw5)
     have HT5 := Lib.hid Rgw5
     have hg4 := HG4.out.lt
     generalize hgt : w4.heap.size = gt at *
     clear HR4 HB4 HG4 hbw5 Rgw5 hgt
     obtain ⟨o8, ho8⟩ : ∃ o8 : Nat, o8 = if 8 - v.length = 8 then 0 else 8 - v.length := ⟨_, rfl⟩
     have hcL : ∀ wq : World, (Instr.sliceAt 107 (.pointer (some ⟨g, 0, none⟩)) (some (.int .i64 (8 - (v.length : Int)))) none none).run Tryz.prog wq = .ok (.slice (some ⟨g, o8, none⟩) v.length v.length) wq := fun wq => by
      have h := cutL8 wq g (8 - v.length) (by omega)
      rw [← ho8, show ((8 - v.length : Nat) : Int) = 8 - (v.length : Int) by omega, show 8 - (8 - v.length) = v.length by omega] at h
      exact h
     have hcH : ∀ wq : World, (Instr.sliceAt 107 (.pointer (some ⟨gt, 0, none⟩)) none (some (.int .i64 (v.length : Int))) none).run Tryz.prog wq = .ok (.slice (some ⟨gt, 0, none⟩) v.length 8) wq := fun wq => cutH8 wq gt v.length hv8
     have HROW : Hid (w5.drew.heap[g]? = some (.cells (cellsV u).toList.toArray 107 (0, 0))) := Lib.hid (by rw [Array.toArray_toList]; exact HG5.out.drew)
     have HPOS : Hid (0 < (valsV v).length → (some (⟨g, o8, none⟩ : Addr)) = some ⟨g, 8 - v.length, none⟩ ∧ ∃ ad : Addr, (some (⟨gt, 0, none⟩ : Addr)) = some ad ∧ ∀ j x, (valsV v)[j]? = some x → w5.drew.cell? (ad.add j) = some x) := Lib.hid (by
      intro hp
      have hp' : 0 < v.length := by simpa [valsV] using hp
      refine ⟨by rw [ho8, if_neg (by omega)], ⟨gt, 0, none⟩, rfl, fun j x hx => ?_⟩
      have hj : j < v.length := by have := (List.getElem?_eq_some_iff.1 hx).1; simpa [valsV] using this
      rw [valsV_get v j hj] at hx
      cases hx
      rw [Addr.add_mid, Nat.zero_add]
      exact (HT5.out.drew.cell j).trans (cellsV_get v j (by omega)))
     have hvl : (valsV v).length = v.length := by simp [valsV]
     have HNN : Hid ((valsV v).length = Nat.min v.length v.length) := Lib.hid (by rw [hvl]; exact (Nat.min_self _).symm)
     have HFIT : Hid (8 - v.length + (valsV v).length ≤ (cellsV u).toList.length) := Lib.hid (by rw [hvl]; simp [cellsV_size]; omega)
     clear hvl ho8
     go_region_law (refine step_copy_splice rfl (.tmp 57) (.tmp 59) 112 112 rfl 106 Tryz.underlying112 u16size (some ⟨g, o8, none⟩) (some ⟨gt, 0, none⟩) v.length v.length v.length 8 (by simp [Act.eval, Act.put]) (by simp [Act.eval, Act.put]) g (8 - v.length) (cellsV u).toList 107 HROW.out (valsV v) HNN.out HPOS.out HFIT.out (valsV_one v) g w5.drew (Below.refl _ _) (Nat.le_refl _) ?_; intro w6 hg6 hb6)
     have HR6 := Lib.hid (HR5.out.drew.below hb6 hgw)
     have HB6 := Lib.hid (HB5.out.drew.trans (hb6.mono (Nat.le_of_lt hgw)))
     have R6 : Row w6 g (cellsV (u ++ List.replicate (8 - u.length - v.length) 0 ++ v)) 107 := by have := hg6.out; rw [splice_cells u v huv] at this; exact this
     have hrg : ∀ x ∈ u ++ List.replicate (8 - u.length - v.length) 0 ++ v, x ≤ 65535 := fun x hx => by
      simp only [List.mem_append, List.mem_replicate] at hx
      rcases hx with (hx | hx) | hx
      ·exact HUL.out x hx
      ·omega
      ·exact HVL.out x hx
     have HLR := Lib.hid (lf_range hrg)
     generalize u ++ List.replicate (8 - u.length - v.length) 0 ++ v = gs at *
     have xc0 := (R6.cell 0).trans (show _ = some (Value.int .u16 (lf gs 0)) from rfl)
     have xc1 := (R6.cell 1).trans (show _ = some (Value.int .u16 (lf gs 1)) from rfl)
     have xc2 := (R6.cell 2).trans (show _ = some (Value.int .u16 (lf gs 2)) from rfl)
     have xc3 := (R6.cell 3).trans (show _ = some (Value.int .u16 (lf gs 3)) from rfl)
     have xc4 := (R6.cell 4).trans (show _ = some (Value.int .u16 (lf gs 4)) from rfl)
     have xc5 := (R6.cell 5).trans (show _ = some (Value.int .u16 (lf gs 5)) from rfl)
     have xc6 := (R6.cell 6).trans (show _ = some (Value.int .u16 (lf gs 6)) from rfl)
     have xc7 := (R6.cell 7).trans (show _ = some (Value.int .u16 (lf gs 7)) from rfl)
     clear HG5 HT5 HROW HPOS HNN HFIT HR5 HB5 hg6 hb6 R6 hcL hcH hrg HUL HVL
     go_wp2_with fail
     refine (of8_t (lf gs) HLR.out w6).mono ?_
     rintro e w7 ⟨rfl, hb7⟩
     have HR7 := Lib.hid (HR6.out.later hb7)
     have HB7 := Lib.hid (below_step HB6.out hb7)
     clear HR6 HB6 hb7 HLR xc0 xc1 xc2 xc3 xc4 xc5 xc6 xc7
     have r0 := (HR7.out.cell 0).trans (show _ = some (Value.int .u64 0) from rfl)
     have r1 := (HR7.out.cell 1).trans (show _ = some (Value.int .u64 0) from rfl)
     have f0 := HR7.out.frozen 0
     have f1 := HR7.out.frozen 1
     go_wp2
     have Q2 := (HR7.out.set 0 (.int .u64 (hi (ofN (lf gs) 8)))).set 1 (.int .u64 (lo (ofN (lf gs) 8)))
     have s0 := (Q2.cell 0).trans (show _ = some (Value.int .u64 (hi (ofN (lf gs) 8))) from rfl)
     have s1 := (Q2.cell 1).trans (show _ = some (Value.int .u64 (lo (ofN (lf gs) 8))) from rfl)
     clear r0 r1 f0 f1
     exact bodyPost_ret (v := .tuple #[.agg #[.int .u64 (hi (ofN (lf gs) 8)), .int .u64 (lo (ofN (lf gs) 8))], .int .i64 0]) (by simp only [results, Tryz.results57]; simp [go_sem, s0, s1]) rfl (by rw [HP.out]; exact ⟨rfl, (HB7.out.setCell (p := ⟨w.heap.size, 0, none⟩) (Nat.le_refl _) _).setCell (p := ⟨w.heap.size, 1, none⟩) (Nat.le_refl _) _⟩)
def DigRel (N n : Nat) (l : List UInt8) : Prop := (l = [] ∧ n = N) ∨ (l ≠ [] ∧ Lib.decDigits N = (if n = 0 then [] else Lib.decDigits n) ++ l)
theorem dec_step (n : Nat) (h : 10 ≤ n) : Lib.decDigits n = Lib.decDigits (n / 10) ++ [UInt8.ofNat (48 + n % 10)] := by
 rw [Lib.decDigits, dif_neg (by omega)]
theorem dec_one (n : Nat) (h : n < 10) : Lib.decDigits n = [UInt8.ofNat (48 + n % 10)] := by
 rw [Lib.decDigits, dif_pos h, Nat.mod_eq_of_lt h]
theorem DigRel.step {N n : Nat} {l : List UInt8} (h : DigRel N n l) (hc : 0 < n ∨ l = []) : DigRel N (n / 10) (UInt8.ofNat (48 + n % 10) :: l) := by
 right
 refine ⟨by simp, ?_⟩
 have key : ∀ m : Nat, Lib.decDigits m = (if m / 10 = 0 then [] else Lib.decDigits (m / 10)) ++ [UInt8.ofNat (48 + m % 10)] := by
  intro m
  by_cases hm : m < 10
  ·rw [if_pos (by omega), dec_one m hm]; rfl
  ·rw [if_neg (by omega)]; exact dec_step m (by omega)
 rcases h with ⟨rfl, rfl⟩ | ⟨hl, h⟩
 ·exact key n
 ·have hn : 0 < n := by rcases hc with h | h; exact h; exact absurd h hl
  rw [h, if_neg (by omega), key n]
  simp
theorem app_ll4 (a b : List UInt8) : (⟨a.toArray⟩ : ByteArray) ++ ⟨b.toArray⟩ = ⟨(a ++ b).toArray⟩ := by
 apply ByteArray.ext
 simp
structure ScanIs (f : Nat → Int) (j : Nat) (s : Nat × Nat × Nat) : Prop where
 a : s.1 + s.2.1 ≤ j
 z : ∀ i, s.1 ≤ i → i < s.1 + s.2.1 → f i = 0
 l : s.2.2 ≤ j
 t : ∀ i, j - s.2.2 ≤ i → i < j → f i = 0
theorem scan_is (f : Nat → Int) : ∀ j, ScanIs f j (scan f j)
 | 0 => ⟨by simp [scan], fun i _ h => by simp [scan] at h, by simp [scan], fun i _ h => by omega⟩
 | j + 1 => by
  obtain ⟨ha, hz, hl, ht⟩ := scan_is f j
  rw [scan]
  generalize scan f j = s at *
  obtain ⟨a, m, l⟩ := s
  dsimp only at *
  have htz : f j = 0 → ∀ i, j - l ≤ i → i < j + 1 → f i = 0 := fun h0 i h1 h2 => by
   by_cases e : i = j
   ·rw [e]; exact h0
   ·exact ht i h1 (by omega)
  split
  ·rename_i h0
   split
   ·exact ⟨by dsimp only; omega, fun i h1 h2 => htz h0 i (by dsimp only at h1 h2; omega) (by dsimp only at h1 h2; omega), by dsimp only; omega, fun i h1 h2 => htz h0 i (by dsimp only at h1; omega) h2⟩
   ·exact ⟨by dsimp only; omega, hz, by dsimp only; omega, fun i h1 h2 => htz h0 i (by dsimp only at h1; omega) h2⟩
  ·exact ⟨by dsimp only; omega, hz, by dsimp only; omega, fun i h1 h2 => by dsimp only at h1; omega⟩
theorem runS_is (f : Nat → Int) : (runS f).1 + (runS f).2 ≤ 8 ∧ (∀ i, (runS f).1 ≤ i → i < (runS f).1 + (runS f).2 → f i = 0) ∧ ((runS f).2 = 0 ∧ (runS f).1 = 0 ∨ 2 ≤ (runS f).2) := by
 have h := scan_is f 8
 unfold runS
 split
 ·exact ⟨by simp, fun i h1 h2 => by dsimp only at h1 h2; omega, Or.inl ⟨rfl, rfl⟩⟩
 ·exact ⟨h.a, h.z, Or.inr (by dsimp only; omega)⟩
def gl (f : Nat → Int) : List Nat := (List.range 8).map fun i => (f i).toNat
theorem gl_len (f : Nat → Int) : (gl f).length = 8 := by simp [gl]
theorem gl_get (f : Nat → Int) (j : Nat) (h : j < 8) : (gl f)[j]? = some (f j).toNat := by simp [gl, List.getElem?_range h]
theorem gl_lt {f : Nat → Int} (hf : ∀ k, 0 ≤ f k ∧ f k ≤ 65535) : ∀ x ∈ gl f, x < 65536 := by
 intro x hx
 unfold gl at hx
 obtain ⟨i, _, rfl⟩ := List.mem_map.1 hx
 have := hf i
 omega
def print6 (f : Nat → Int) : List UInt8 := if (runS f).2 = 0 then joinH (gl f) else joinH ((gl f).take (runS f).1) ++ [58, 58] ++ joinH ((gl f).drop ((runS f).1 + (runS f).2))
theorem joinN_t (fs : List Nat) (n g o c : Nat) (hn : fs.length = n) (hl : n ≤ 8) (hf : ∀ x ∈ fs, x < 65536) (w : World) (hg : g < w.heap.size) (hE : Env6 w) (hc : ∀ (j x : Nat), fs[j]? = some x → w.cell? ⟨g, o + j, none⟩ = some (.int .u16 (x : Int))) : Calls Tryz.prog 80 #[.slice (some ⟨g, o, none⟩) n c] w fun e w' => e = .returned (.string ⟨(joinH fs).toArray⟩) ∧ Below w.heap.size w w' := by
 subst hn
 exact join_t fs g o c hl hf w hg hE hc
def cellsF (f : Nat → Int) : Array Value := #[.int .u16 (f 0), .int .u16 (f 1), .int .u16 (f 2), .int .u16 (f 3), .int .u16 (f 4), .int .u16 (f 5), .int .u16 (f 6), .int .u16 (f 7)]
theorem cellsF_get (f : Nat → Int) (i : Nat) (h : i < 8) : (cellsF f)[i]? = some (.int .u16 (f i)) := by
 rcases i with _ | _ | _ | _ | _ | _ | _ | _ | i <;> first | rfl | omega
theorem glcell {f : Nat → Int} (hf : ∀ k, 0 ≤ f k ∧ f k ≤ 65535) {w : World} {g : Nat} (R : Row w g (cellsF f) 107) (j x : Nat) (h : (gl f)[j]? = some x) : w.cell? ⟨g, j, none⟩ = some (.int .u16 (x : Int)) := by
 have hj : j < 8 := by have := (List.getElem?_eq_some_iff.1 h).1; rwa [gl_len] at this
 rw [gl_get f j hj] at h
 cases h
 rw [R.cell j, cellsF_get f j hj]
 have := hf j
 rw [Int.toNat_of_nonneg this.1]
def PS (w : World) (g : Nat) (f : Nat → Int) (w' : World) : Prop := Row w' g (cellsF f) 107 ∧ Env6 w' ∧ Below w.heap.size w w'
theorem PS.later {w : World} {g : Nat} {f : Nat → Int} {w1 w2 : World} (h : PS w g f w1) (hb : Below w1.heap.size w1 w2) : PS w g f w2 := ⟨h.1.later hb, h.2.1.later hb, below_step h.2.2 hb⟩
theorem PS.drew {w : World} {g : Nat} {f : Nat → Int} {w1 : World} (h : PS w g f w1) : PS w g f w1.drew := h.later ((Below.refl _ _).drew)
theorem jA {f : Nat → Int} (hf : ∀ k, 0 ≤ f k ∧ f k ≤ 65535) {w wq : World} {g : Nat} (h : PS w g f wq) : Calls Tryz.prog 80 #[.slice (some ⟨g, 0, none⟩) 8 8] wq fun e w' => e = .returned (.string ⟨(joinH (gl f)).toArray⟩) ∧ Below wq.heap.size wq w' :=
 joinN_t (gl f) 8 g 0 8 (gl_len f) (by omega) (gl_lt hf) wq h.1.lt h.2.1 (fun j x hx => by rw [Nat.zero_add]; exact glcell hf h.1 j x hx)
theorem j1 {f : Nat → Int} (hf : ∀ k, 0 ≤ f k ∧ f k ≤ 65535) {n : Nat} (hn : n ≤ 8) {w wq : World} {g : Nat} (h : PS w g f wq) : Calls Tryz.prog 80 #[.slice (some ⟨g, 0, none⟩) n 8] wq fun e w' => e = .returned (.string ⟨(joinH ((gl f).take n)).toArray⟩) ∧ Below wq.heap.size wq w' :=
 joinN_t ((gl f).take n) n g 0 8 (by simp [gl_len]; omega) hn (fun x hx => gl_lt hf x (List.mem_of_mem_take hx)) wq h.1.lt h.2.1 (fun j x hx => by
  rw [Nat.zero_add]
  have hj : j < n := by have := (List.getElem?_eq_some_iff.1 hx).1; simp at this; omega
  rw [List.getElem?_take_of_lt hj] at hx
  exact glcell hf h.1 j x hx)
theorem j2 {f : Nat → Int} (hf : ∀ k, 0 ≤ f k ∧ f k ≤ 65535) {k o n : Nat} (hk : k ≤ 8) (ho : o = if k = 8 then 0 else k) (hn : n = 8 - k) {w wq : World} {g : Nat} (h : PS w g f wq) : Calls Tryz.prog 80 #[.slice (some ⟨g, o, none⟩) n n] wq fun e w' => e = .returned (.string ⟨(joinH ((gl f).drop k)).toArray⟩) ∧ Below wq.heap.size wq w' :=
 joinN_t ((gl f).drop k) n g o n (by simp [gl_len]; omega) (by omega) (fun x hx => gl_lt hf x (List.mem_of_mem_drop hx)) wq h.1.lt h.2.1 (fun j x hx => by
  rw [List.getElem?_drop] at hx
  have hj : k + j < 8 := by have := (List.getElem?_eq_some_iff.1 hx).1; rwa [gl_len] at this
  rw [ho, if_neg (by omega)]
  exact glcell hf h.1 (k + j) x hx)
theorem print6_t (A : Int) (w : World) (hE : Env6 w) : Calls Tryz.prog 37 #[.agg #[.int .u64 (hi A), .int .u64 (lo A)]] w fun e w' => e = .returned (.string ⟨(print6 (grp A)).toArray⟩) ∧ Below w.heap.size w w' := by
 have hf := grp_range A
 obtain ⟨f, hfe⟩ : ∃ f, f = grp A := ⟨_, rfl⟩
 rw [← hfe] at hf ⊢
 have HPR : Hid (print6 f = if (runS f).2 = 0 then joinH (gl f) else joinH ((gl f).take (runS f).1) ++ [58, 58] ++ joinH ((gl f).drop ((runS f).1 + (runS f).2))) := Lib.hid rfl
 generalize print6 f = pt at *
 have HFE := Lib.hid hfe
 clear hfe
 go_enter Tryz.func37, Tryz.ntmps37
 go_wp2_with fail
 have hb0 : Below w.heap.size w (w.alloc (.cells #[.int .u64 (hi A), .int .u64 (lo A)] 73)) := (Below.refl _ _).alloc (Nat.le_refl _) _
 generalize w.alloc (.cells #[.int .u64 (hi A), .int .u64 (lo A)] 73) = w0 at *
 refine (groups_t A w0).mono ?_
 rintro e w1 ⟨rfl, hb1⟩
 have HB := Lib.hid (below_step hb0 hb1)
 clear hb0 hb1
 rw [← HFE.out]
 unfold arr8
 go_wp2_with fail
 have Rg := Row.new w1 (cellsF f) 107
 have hb2 : Below w1.heap.size w1 (w1.alloc (.cells (cellsF f) 107)) := (Below.refl _ _).alloc (Nat.le_refl _) _
 unfold cellsF at Rg hb2
 generalize w1.alloc (.cells #[.int .u16 (f 0), .int .u16 (f 1), .int .u16 (f 2), .int .u16 (f 3), .int .u16 (f 4), .int .u16 (f 5), .int .u16 (f 6), .int .u16 (f 7)] 107) = w2 at *
 refine (run_t f hf w2).mono ?_
 rintro e w3 ⟨rfl, hb3⟩
 have hPS : PS w w1.heap.size f w3 := ⟨Rg.later hb3, hE.later (below_step (below_step HB.out hb2) hb3), below_step (below_step HB.out hb2) hb3⟩
 generalize w1.heap.size = g at *
 have HPS := Lib.hid hPS
 clear Rg hb2 hb3 HB hPS
 obtain ⟨hr1, hr2, hr3⟩ := runS_is f
 clear hr2
 generalize runS f = r at *
 obtain ⟨at_, n⟩ := r
 dsimp only at *
 have HF := Lib.hid hf
 clear hf
 by_cases hn : n = 0
 ·have HP := Lib.hid (HPR.out.trans (if_pos hn))
  subst hn
  clear HPR hr1 hr3
  have hca := fun wq => cutAll8 wq g
  go_wp2_with fail
  refine (jA HF.out HPS.out).mono ?_
  rintro e w4 ⟨rfl, hb4⟩
  have HB4 := Lib.hid (HPS.out.later hb4).2.2
  clear hb4 HPS hca
  go_wp2
  go_ret
  exact ⟨by rw [HP.out]; rfl, HB4.out⟩
 ·have HP := Lib.hid (HPR.out.trans (if_neg hn))
  have hn' : ¬ (n : Int) = 0 := by omega
  have hnb : ((n : Int) == 0) = false := by rw [beq_eq_false_iff_ne]; omega
  clear HPR hr3
  obtain ⟨k, hk⟩ : ∃ k, k = at_ + n := ⟨_, rfl⟩
  obtain ⟨o, ho⟩ : ∃ o, o = if k = 8 then 0 else k := ⟨_, rfl⟩
  obtain ⟨m, hm⟩ : ∃ m, m = 8 - k := ⟨_, rfl⟩
  have hc1 := fun wq => cutH8 wq g at_ (by omega)
  have hc2 : ∀ wq : World, (Instr.sliceAt 107 (.pointer (some ⟨g, 0, none⟩)) (some (.int .i64 ((at_ : Int) + (n : Int)))) none none).run Tryz.prog wq = .ok (.slice (some ⟨g, o, none⟩) m m) wq := fun wq => by
   have h := cutL8 wq g k (by omega)
   rw [← ho, ← hm, hk] at h
   simpa using h
  have qw : IntKind.i64.wrap ((at_ : Int) + (n : Int)) = (at_ : Int) + (n : Int) := by simp [IntKind.wrap, IntKind.bits, IntKind.signed]; omega
  have HO := Lib.hid ho
  have HM := Lib.hid hm
  have HK := Lib.hid hk
  clear ho hm hk
  have hJ1 := fun wq (h : PS w g f wq) => j1 HF.out (show at_ ≤ 8 by omega) h
  have hJ2 := fun wq (h : PS w g f wq) => j2 HF.out (show k ≤ 8 by have := HK.out; omega) HO.out HM.out h
  have hl1 : (joinH ((gl f).take at_)).length ≤ 40 := Nat.le_trans (joinH_len _ (fun x hx => gl_lt HF.out x (List.mem_of_mem_take hx))) (by simp [gl_len]; omega)
  have hl2 : (joinH ((gl f).drop k)).length ≤ 40 := Nat.le_trans (joinH_len _ (fun x hx => gl_lt HF.out x (List.mem_of_mem_drop hx))) (by simp [gl_len]; omega)
  generalize joinH ((gl f).take at_) = s1 at *
  generalize hs2 : joinH ((gl f).drop k) = s2 at *
  have HS2 := Lib.hid hs2
  have HRES : Hid ((⟨s1.toArray⟩ : ByteArray) ++ ⟨#[58, 58]⟩ ++ ⟨s2.toArray⟩ = ⟨pt.toArray⟩) := Lib.hid (by rw [HP.out, ← HK.out, HS2.out, show (⟨#[58, 58]⟩ : ByteArray) = ⟨[58, 58].toArray⟩ from rfl, app_ll4, app_ll4])
  have hx1 : ¬ 9223372036854775807 < s1.length + 2 := by omega
  have hx2 : ¬ 9223372036854775807 < s1.length + 2 + s2.length := by omega
  clear hs2
  go_wp2_with fail
  refine wp_region_held_drew (S := (fun w' => PS w g f w')) (by kernel_rfl) ?hSr1_ (fun hH => ?_)
  case hSr1_ => (first | exact HPS.out.drew | exact hH.later hb)
  refine tk 0 ⟨some 17, .move (.tmp 4), 3, _, _, _⟩ hH ?_
  refine tk 1 ⟨some 18, .slice 107 (.tmp 3) none (some (.tmp 17)) none, 112, _, _, _⟩ hH ?_
  refine tk 4 ⟨some 21, .move (.tmp 4), 3, _, _, _⟩ hH ?_
  refine tk 5 ⟨some 22, .move (.tmp 5), 3, _, _, _⟩ hH ?_
  refine tk 6 ⟨some 23, .binOp .add 3 (.tmp 21) (.tmp 22) 3, 3, _, _, _⟩ hH ?_
  refine tk 7 ⟨some 24, .slice 107 (.tmp 3) (some (.tmp 23)) none none, 112, _, _, _⟩ hH ?_
  refine wpAnyH_ready (rs := [2]) (by kernel_rfl) (by simp) ?_
  refine AllReadyH.cons (o := ⟨some 19, .call { callee := .value (.func 80), args := #[.tmp 18], argTypes := #[112] }, 9, _, _, _⟩) rfl (fun K hK => ?_) AllReadyH.nil
  go_simp
  ((first | (with_reducible refine (hJ1 _ hH).mono ?_) | (with_reducible refine (hJ2 _ hH).mono ?_)); (rintro e wn ⟨rfl, hb⟩))
  go_wp2_with fail
  refine hK.out _ _ ?hSr1_7_2 fun _ => ?_
  case hSr1_7_2 => (first | exact HPS.out.drew | exact hH.later hb)
  clear hK K hH; rename_i hH
  (try simp only [Act.put, nz1, nz2, nz3])
  refine tk 3 ⟨some 20, .binOp .add 9 (.tmp 19) (.const (.string { data := #[58, 58] })) 9, 9, _, _, _⟩ hH ?_
  refine wpAnyH_ready (rs := [8]) (by kernel_rfl) (by simp) ?_
  refine AllReadyH.cons (o := ⟨some 25, .call { callee := .value (.func 80), args := #[.tmp 24], argTypes := #[112] }, 9, _, _, _⟩) rfl (fun K hK => ?_) AllReadyH.nil
  go_simp
  ((first | (with_reducible refine (hJ1 _ hH).mono ?_) | (with_reducible refine (hJ2 _ hH).mono ?_)); (rintro e wn ⟨rfl, hb⟩))
  go_wp2_with fail
  refine hK.out _ _ ?hSr1_9_8 fun _ => ?_
  case hSr1_9_8 => (first | exact HPS.out.drew | exact hH.later hb)
  clear hK K hH; rename_i hH
  (try simp only [Act.put, nz1, nz2, nz3])
  refine tk 9 ⟨some 26, .binOp .add 9 (.tmp 20) (.tmp 25) 9, 9, _, _, _⟩ hH ?_
  refine tk 10 ⟨some 2, .assign (.tmp 26), 9, _, _, _⟩ hH ?_
  refine wpAnyH_done (by kernel_rfl) ?_ _
  (go_wp2; go_ret; exact ⟨congrArg (fun b => Ending.returned (Value.string b)) HRES.out, hH.2.2⟩)
end Go.Proofs.YtboinifeemghaaaGreatDoor
