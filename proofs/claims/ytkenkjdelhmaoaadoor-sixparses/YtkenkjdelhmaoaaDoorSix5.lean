/- Hexadecimal digits; formatBits at base 16. No conditions beyond ranges. -/
import Derived.Test.YtkenkjdelhmaoaaDoorSix4
import Derived.Laws.IdiomStrings
namespace Go.Proofs.YtkenkjdelhmaoaaDoor
set_option linter.unusedVariables false
set_option linter.unusedSimpArgs false
open Go.RowKit
def hexC (k : Nat) : UInt8 := if k < 10 then UInt8.ofNat (48 + k) else UInt8.ofNat (87 + k)
def hexD (n : Nat) : List UInt8 := if h : n < 16 then [hexC n] else hexD (n / 16) ++ [hexC (n % 16)]
termination_by n
decreasing_by omega
theorem hexD_one (n : Nat) (h : n < 16) : hexD n = [hexC n] := by rw [hexD, dif_pos h]
theorem hexD_step (n : Nat) (h : 16 ≤ n) : hexD n = hexD (n / 16) ++ [hexC (n % 16)] := by rw [hexD, dif_neg (by omega)]
theorem and15 (n : Nat) (h : n < 65536) : bits .and .u64 (n : Int) 15 = ((n % 16 : Nat) : Int) := by
  show IntKind.u64.wrap ((BitVec.ofInt 64 (n : Int) &&& BitVec.ofInt 64 15).toNat : Int) = _
  rw [BitVec.toNat_and, ofInt_toNat (n : Int) ⟨by omega, by omega⟩, ofInt_toNat 15 ⟨by decide, by decide⟩]
  have h2 : (n : Int).toNat &&& (15 : Int).toNat = n % 16 := by
    rw [Int.toNat_natCast]; exact Nat.and_two_pow_sub_one_eq_mod n 4
  rw [h2]
  simp [IntKind.wrap, IntKind.bits, IntKind.signed]
  omega
theorem dig36 (k : Nat) (h : k < 16) (hs : k < (⟨#[48, 49, 50, 51, 52, 53, 54, 55, 56, 57, 97, 98, 99, 100, 101, 102, 103, 104, 105, 106, 107, 108, 109, 110, 111, 112, 113, 114, 115, 116, 117, 118, 119, 120, 121, 122]⟩ : ByteArray).size) : (⟨#[48, 49, 50, 51, 52, 53, 54, 55, 56, 57, 97, 98, 99, 100, 101, 102, 103, 104, 105, 106, 107, 108, 109, 110, 111, 112, 113, 114, 115, 116, 117, 118, 119, 120, 121, 122]⟩ : ByteArray)[k]'hs = hexC k := by
  have : ∀ k : Fin 16, (⟨#[48, 49, 50, 51, 52, 53, 54, 55, 56, 57, 97, 98, 99, 100, 101, 102, 103, 104, 105, 106, 107, 108, 109, 110, 111, 112, 113, 114, 115, 116, 117, 118, 119, 120, 121, 122]⟩ : ByteArray)[(k : Nat)]'(Nat.lt_of_lt_of_le k.isLt (by decide)) = hexC k := by decide +kernel
  exact this ⟨k, h⟩
theorem size36 : (⟨#[48, 49, 50, 51, 52, 53, 54, 55, 56, 57, 97, 98, 99, 100, 101, 102, 103, 104, 105, 106, 107, 108, 109, 110, 111, 112, 113, 114, 115, 116, 117, 118, 119, 120, 121, 122]⟩ : ByteArray).size = 36 := by decide
/-- the last bytes of a row -/
def Tail (cs : Array Value) (l : List UInt8) : Prop := cs.size = 65 ∧ l.length ≤ 65 ∧ ∀ m (h : m < l.length), cs[65 - l.length + m]? = some (.int .u8 (l[m].toNat : Int))
theorem Tail.cons {cs : Array Value} {l : List UInt8} (h : Tail cs l) (c : UInt8) (hl : l.length < 65) : Tail (cs.setIfInBounds (65 - l.length - 1) (.int .u8 (c.toNat : Int))) (c :: l) := by
  obtain ⟨h1, h2, h3⟩ := h
  refine ⟨by simp [h1], by simp; omega, fun m hm => ?_⟩
  rw [Array.getElem?_setIfInBounds]
  rcases m with _ | m
  · rw [if_pos (by simp; omega), if_pos (by rw [h1]; omega)]; rfl
  · rw [if_neg (by simp; omega)]
    have := h3 m (by simpa using hm)
    rw [show 65 - (c :: l).length + (m + 1) = 65 - l.length + m by simp; omega]
    exact this
theorem cutA65 (w : World) (g k : Nat) (h : k ≤ 64) : (Instr.sliceAt 120 (.pointer (some ⟨g, 0, none⟩)) (some (.int .i64 (k : Int))) none none).run Tryd.prog w = .ok (.slice (some ⟨g, k, none⟩) (65 - k) (65 - k)) w := by
  have ha : Tryd.prog.arrayLen 120 = 65 := by kernel_rfl
  have he : Tryd.prog.elem 120 = 5 := by kernel_rfl
  have hu : Tryd.prog.underlying 120 = some (.array (Tryd.prog.arrayLen 120) (Tryd.prog.elem 120)) := by rw [ha, he]; exact Tryd.underlying120
  rw [run_sliceAt_array_l (P := Tryd.prog) w 120 ⟨g, 0, none⟩ hu .i64 (k : Int) (by omega) (by rw [ha]; omega)]
  rw [ha, he]
  simp [go_sem]
  omega
set_option maxRecDepth 100000 in
set_option maxHeartbeats 3200000 in
theorem bits16_t (N : Nat) (hN : N < 65536) (w : World) (hE : Env6 w) : Calls Tryd.prog 72 #[.slice none 0 0, .int .u64 N, .int .i64 16, .bool false, .bool false] w fun e w' => e = .returned (.tuple #[.slice none 0 0, .string ⟨(hexD N).toArray⟩]) ∧ Below w.heap.size w w' := by
  go_enter Tryd.func72, Tryd.ntmps72
  go_wp2_with fail
  have R0 := Row.new w Tryd.zeroCells120 120
  have hb0 : Below w.heap.size w (w.alloc (.cells Tryd.zeroCells120 120)) := (Below.refl _ _).alloc (Nat.le_refl _) _
  have hT0 : Tail Tryd.zeroCells120 [] := ⟨by kernel_rfl, by simp, fun m hm => by cases hm⟩
  generalize Tryd.zeroCells120 = zs at *
  generalize w.alloc (.cells zs 120) = w0 at *
  have HR := Lib.hid R0
  have HB := Lib.hid hb0
  have HT := Lib.hid hT0
  clear R0 hb0 hT0
  refine (pow2_t w0).mono ?_
  rintro r w1 ⟨rfl, rfl⟩
  go_wp2_with fail
  refine (tz_t w0 (hE.later HB.out)).mono ?_
  rintro r w1 ⟨rfl, rfl⟩
  go_wp2_with fail
  go_loopw [1, 13] (fun vu vi wr => ∃ (u : Nat) (l : List UInt8) (cs : Array Value), vu = .int .u64 u ∧ vi = .int .i64 ((65 - l.length : Nat) : Int) ∧ l.length ≤ 3 ∧ u * 16 ^ l.length ≤ N ∧ (l ≠ [] → 1 ≤ u) ∧ hexD N = hexD u ++ l ∧ Row wr w.heap.size cs 120 ∧ Tail cs l ∧ Below w.heap.size w wr) (fun vu _ _ => (intOf vu).toNat)
  case atStart => exact ⟨N, [], zs, rfl, rfl, by simp, by simp, fun h => absurd rfl h, by simp, HR.out, HT.out, HB.out⟩
  case round =>
    clear HR HB HT
    obtain ⟨u, l, cs, rfl, rfl, hl, hul, hu1, hx, R, hT, hb⟩ := hrel
    have huN : u ≤ N := Nat.le_trans (Nat.le_mul_of_pos_right u (Nat.pow_pos (by decide))) hul
    have hu : u < 65536 := by omega
    have HR := Lib.hid R
    have HT := Lib.hid hT
    have HX := Lib.hid hx
    have HU := Lib.hid hul
    have HB := Lib.hid hb
    clear hul hu1 hx hb
    by_cases h16 : 16 ≤ u
    · have h16' : (16 : Int) ≤ (u : Int) := by omega
      have ha := and15 u hu
      have hd := dig36 (u % 16) (by omega) (by rw [size36]; omega)
      have hl2 : l.length ≤ 2 := by
        have h := HU.out
        by_cases h3 : l.length = 3
        · rw [h3] at h; have : 16 * 16 ^ 3 ≤ u * 16 ^ 3 := Nat.mul_le_mul_right _ h16; omega
        · omega
      have hcell : ∃ v, wr.cell? ⟨w.heap.size, 65 - l.length - 1, none⟩ = some v := ⟨_, (R.cell (65 - l.length - 1)).trans (Array.getElem?_eq_getElem (by rw [hT.1]; omega))⟩
      obtain ⟨v0, c0⟩ := hcell
      have f0 := R.frozen (65 - l.length - 1)
      clear R hT
      have q1 : (((65 - l.length : Nat) : Int) - 1) = ((65 - l.length - 1 : Nat) : Int) := by omega
      have q2 : ((u % 16 : Nat) : Int) < 36 := by omega
      go_wp2
      refine ⟨⟨u / 16, hexC (u % 16) :: l, _, by go_num, by simp; omega, by simp; omega, ?_, fun _ => by omega, ?_, HR.out.set _ _, HT.out.cons _ (by omega), HB.out.setCell (Nat.le_refl _) _⟩, by simp [intOf]; omega⟩
      · rw [List.length_cons, Nat.pow_succ, Nat.mul_comm (16 ^ l.length) 16, ← Nat.mul_assoc]
        exact Nat.le_trans (Nat.mul_le_mul_right _ (Nat.div_mul_le_self u 16)) HU.out
      · rw [HX.out, hexD_step u h16]; simp
    · have h16' : ¬ (16 : Int) ≤ (u : Int) := by omega
      have hd := dig36 u (by omega) (by rw [size36]; omega)
      have hcell : ∃ v, wr.cell? ⟨w.heap.size, 65 - l.length - 1, none⟩ = some v := ⟨_, (R.cell (65 - l.length - 1)).trans (Array.getElem?_eq_getElem (by rw [hT.1]; omega))⟩
      obtain ⟨v0, c0⟩ := hcell
      have f0 := R.frozen (65 - l.length - 1)
      clear R hT
      have q1 : (((65 - l.length : Nat) : Int) - 1) = ((65 - l.length - 1 : Nat) : Int) := by omega
      have R2 := HR.out.set (65 - l.length - 1) (.int .u8 ((hexC u).toNat : Int))
      have hT2 := HT.out.cons (hexC u) (by omega)
      have hB2 : Below w.heap.size w (wr.setCell ⟨w.heap.size, 65 - l.length - 1, none⟩ (.int .u8 ((hexC u).toNat : Int))) := HB.out.setCell (Nat.le_refl _) _
      have hl4 : (hexC u :: l).length = 65 - (65 - l.length - 1) := by simp; omega
      have hconv := run_convert_bytes_back (P := Tryd.prog) (wr.setCell ⟨w.heap.size, 65 - l.length - 1, none⟩ (.int .u8 ((hexC u).toNat : Int))) 84 9 5 ⟨w.heap.size, 65 - l.length - 1, none⟩ (65 - (65 - l.length - 1)) (hexC u :: l) Tryd.underlying84 Tryd.underlying5 Tryd.underlying9 (fun j hj => by
        have h3 := hT2.2.2 j hj
        rw [Addr.add_mid, R2.cell]
        rw [show 65 - l.length - 1 + j = 65 - (hexC u :: l).length + j by simp; omega]
        exact h3)
      rw [hl4] at hconv
      have hres : hexD N = hexC u :: l := by rw [HX.out, hexD_one u (by omega)]; rfl
      have HRES := Lib.hid hres
      have HB2 := Lib.hid hB2
      clear hres hB2 R2 hT2
      have hcut := cutA65 (wr.setCell ⟨w.heap.size, 65 - l.length - 1, none⟩ (.int .u8 ((hexC u).toNat : Int))) w.heap.size (65 - l.length - 1) (by omega)
      clear hl4
      go_wp2
      exact bodyPost_ret (v := .tuple #[.slice none 0 0, .string ⟨(hexC u :: l).toArray⟩]) (by simp [results, Tryd.results72, go_sem]) rfl ⟨by rw [HRES.out], HB2.out⟩
set_option maxHeartbeats 800000 in
theorem ifmt16_t (N : Nat) (hN : N < 65536) (w : World) (hE : Env6 w) : Calls Tryd.prog 68 #[.int .u64 N, .int .i64 16] w fun e w' => e = .returned (.string ⟨(hexD N).toArray⟩) ∧ Below w.heap.size w w' := by
  go_enter Tryd.func68, Tryd.ntmps68
  go_wp2_with fail
  refine (bits16_t N hN w hE).mono ?_
  rintro r w1 ⟨rfl, hb⟩
  have HB := Lib.hid hb
  clear hb
  go_wp2
  go_ret
  exact ⟨rfl, HB.out⟩
set_option maxHeartbeats 800000 in
theorem fmt16_t (N : Nat) (hN : N < 65536) (w : World) (hE : Env6 w) : Calls Tryd.prog 55 #[.int .u64 N, .int .i64 16] w fun e w' => e = .returned (.string ⟨(hexD N).toArray⟩) ∧ Below w.heap.size w w' := by
  go_enter Tryd.func55, Tryd.ntmps55
  go_wp2_with fail
  refine (ifmt16_t N hN w hE).mono ?_
  rintro r w1 ⟨rfl, hb⟩
  have HB := Lib.hid hb
  clear hb
  go_wp2
  go_ret
  exact ⟨rfl, HB.out⟩
end Go.Proofs.YtkenkjdelhmaoaaDoor
