/- Wide of package num writes a number's decimal text. No conditions beyond ranges. -/
import Derived.Test.YtbhaoafngneclaaDoorN2
import Derived.Test.YtbhaoafngneclaaDoorShelf
import Derived.Laws.IdiomStrings
import Derived.BigQuiet
namespace Go.Proofs.YtbhaoafngneclaaDoor
set_option linter.unusedVariables false
set_option linter.unusedSimpArgs false
open Go.RowKit
theorem cells39_zero (n : Nat) : cells39 n 0 = #[.int .u8 0, .int .u8 0, .int .u8 0, .int .u8 0, .int .u8 0, .int .u8 0, .int .u8 0, .int .u8 0, .int .u8 0, .int .u8 0, .int .u8 0, .int .u8 0, .int .u8 0, .int .u8 0, .int .u8 0, .int .u8 0, .int .u8 0, .int .u8 0, .int .u8 0, .int .u8 0, .int .u8 0, .int .u8 0, .int .u8 0, .int .u8 0, .int .u8 0, .int .u8 0, .int .u8 0, .int .u8 0, .int .u8 0, .int .u8 0, .int .u8 0, .int .u8 0, .int .u8 0, .int .u8 0, .int .u8 0, .int .u8 0, .int .u8 0, .int .u8 0, .int .u8 0] := by kernel_rfl
theorem cutA39l (w : World) (g : Nat) : (Instr.sliceAt 44 (.pointer (some ⟨g, 0, none⟩)) (some (.int .i64 38)) none none).run Tryd.prog w = .ok (.slice (some ⟨g, 38, none⟩) 1 1) w := by
  have ha : Tryd.prog.arrayLen 44 = 39 := by kernel_rfl
  have he : Tryd.prog.elem 44 = 5 := by kernel_rfl
  have hu : Tryd.prog.underlying 44 = some (.array (Tryd.prog.arrayLen 44) (Tryd.prog.elem 44)) := by rw [ha, he]; exact Tryd.underlying44
  rw [run_sliceAt_array_l (P := Tryd.prog) w 44 ⟨g, 0, none⟩ hu .i64 38 (by omega) (by rw [ha]; omega)]
  rw [ha, he]
  simp [go_sem]
theorem cutA39h (w : World) (g : Nat) : (Instr.sliceAt 44 (.pointer (some ⟨g, 0, none⟩)) none (some (.int .i64 38)) none).run Tryd.prog w = .ok (.slice (some ⟨g, 0, none⟩) 38 39) w := by
  have ha : Tryd.prog.arrayLen 44 = 39 := by kernel_rfl
  have he : Tryd.prog.elem 44 = 5 := by kernel_rfl
  have hu : Tryd.prog.underlying 44 = some (.array (Tryd.prog.arrayLen 44) (Tryd.prog.elem 44)) := by rw [ha, he]; exact Tryd.underlying44
  rw [run_sliceAt_array_h (P := Tryd.prog) w 44 ⟨g, 0, none⟩ hu .i64 38 (by omega) (by rw [ha]; omega)]
  rw [ha, he]
  simp [go_sem]
theorem cell39_dg (n p : Nat) : cell39 n 39 p = .int .u8 ((dg (n / 10 ^ (38 - p))).toNat : Int) := by
  unfold cell39
  rw [if_pos (by omega), dg_toNat]
theorem conv39a (n : Nat) {w : World} {g : Nat} (R : Row w g (cells39 n 39) 44) : (convert 48 9 (.slice (some ⟨g, 0, none⟩) 38 39)).run Tryd.prog w = .ok (.string ⟨(digsL 38 (n / 10)).toArray⟩) w := by
  have h := run_convert_bytes_back (P := Tryd.prog) w 48 9 5 ⟨g, 0, none⟩ 39 (digsL 38 (n / 10)) Tryd.underlying48 Tryd.underlying5 Tryd.underlying9 (fun j hj => by
    rw [digsL_length] at hj
    have e := digsL_get 38 (n / 10) j hj
    rw [List.getElem?_eq_getElem (by rw [digsL_length]; exact hj)] at e
    rw [Option.some.inj e, Addr.add_mid, R.cell, Nat.zero_add, cells39_get _ _ _ (by omega), cell39_dg, Nat.div_div_eq_div_mul, ← Nat.pow_succ', show (38 - 1 - j).succ = 38 - j by omega])
  rwa [digsL_length] at h
theorem conv39b (n : Nat) {w : World} {g : Nat} (R : Row w g (cells39 n 39) 44) : (convert 48 9 (.slice (some ⟨g, 38, none⟩) 1 1)).run Tryd.prog w = .ok (.string ⟨[dg n].toArray⟩) w := by
  refine run_convert_bytes_back (P := Tryd.prog) w 48 9 5 ⟨g, 38, none⟩ 1 [dg n] Tryd.underlying48 Tryd.underlying5 Tryd.underlying9 (fun j hj => ?_)
  obtain rfl : j = 0 := by simpa using hj
  rw [Addr.add_mid, R.cell, Nat.add_zero, cells39_get _ _ _ (by omega), cell39_dg]
  simp
theorem Row.drewN {w : World} {g : Nat} {cs : Array Value} {t : TypeId} (h : Row w g cs t) (n : Nat) : Row (w.drewN n) g cs t := h
theorem ba_add (a b : List UInt8) : (⟨a.toArray⟩ : ByteArray) ++ ⟨b.toArray⟩ = ⟨(a ++ b).toArray⟩ := by apply ByteArray.ext; simp
set_option maxRecDepth 100000 in
set_option maxHeartbeats 1600000 in
theorem nwide_t (n : Nat) (hn : (n : Int) < MM) (w : World) : Calls Tryd.prog 7 #[.agg #[.int .u64 (hi n), .int .u64 (lo n)]] w fun e w' => e = .returned (.string ⟨(decN n).toArray⟩) ∧ Below w.heap.size w w' := by
  go_enter Tryd.func7, Tryd.ntmps7
  go_wp2_with fail
  go_loopw [7] (fun i wr => ∃ k : Nat, k ≤ 39 ∧ i = .int .i64 (k : Nat) ∧ Row wr w.heap.size #[.int .u64 (hi (n / 10 ^ k : Nat)), .int .u64 (lo (n / 10 ^ k : Nat))] 24 ∧ Row wr (w.heap.size + 1) (cells39 n k) 44 ∧ Below w.heap.size w wr) (fun i _ => 39 - (intOf i).toNat)
  case atStart =>
    refine ⟨0, by omega, rfl, ?_, ?_, (by repeat (first | exact Below.refl _ _ | assumption | (with_reducible refine Below.setCell ?_ ?h _; case h => first | omega | (simp; done) | (simp; omega)) | (with_reducible refine Below.alloc ?_ ?h _; case h => first | omega | (simp; done) | (simp; omega)) | (with_reducible refine Below.drew ?_) | (with_reducible refine Below.trans ?_ (hb4.mono ?h); case h => first | omega | (simp; done) | (simp; omega)) | (with_reducible refine Below.trans ?_ (hb3.mono ?h); case h => first | omega | (simp; done) | (simp; omega)) | (with_reducible refine Below.trans ?_ (hb2.mono ?h); case h => first | omega | (simp; done) | (simp; omega)) | (with_reducible refine Below.trans ?_ (hb.mono ?h); case h => first | omega | (simp; done) | (simp; omega)) | (with_reducible refine Below.trans ?_ (hb0.mono ?h); case h => first | omega | (simp; done) | (simp; omega))))⟩
    · rw [Nat.pow_zero, Nat.div_one]; exact (Row.new w _ _).alloc _
    · rw [cells39_zero]
      have := Row.new (w.alloc (.cells #[.int .u64 (hi n), .int .u64 (lo n)] 24)) #[.int .u8 0, .int .u8 0, .int .u8 0, .int .u8 0, .int .u8 0, .int .u8 0, .int .u8 0, .int .u8 0, .int .u8 0, .int .u8 0, .int .u8 0, .int .u8 0, .int .u8 0, .int .u8 0, .int .u8 0, .int .u8 0, .int .u8 0, .int .u8 0, .int .u8 0, .int .u8 0, .int .u8 0, .int .u8 0, .int .u8 0, .int .u8 0, .int .u8 0, .int .u8 0, .int .u8 0, .int .u8 0, .int .u8 0, .int .u8 0, .int .u8 0, .int .u8 0, .int .u8 0, .int .u8 0, .int .u8 0, .int .u8 0, .int .u8 0, .int .u8 0, .int .u8 0] 44
      rwa [World.size_alloc] at this
  case round =>
    obtain ⟨k, hk, rfl, R0, R1, hb⟩ := hrel
    by_cases hlt : k < 39
    · have hkb : (k : Int) < 39 := by omega
      have c0 := (R0.cell 0).trans (show _ = some (Value.int .u64 (hi (n / 10 ^ k : Nat))) from rfl)
      have c1 := (R0.cell 1).trans (show _ = some (Value.int .u64 (lo (n / 10 ^ k : Nat))) from rfl)
      have hm : ((n / 10 ^ k : Nat) : Int) < MM := by
        have := Nat.div_le_self n (10 ^ k)
        omega
      have hset := cells39_set n k hlt
      have hnx : n / 10 ^ (k + 1) = n / 10 ^ k / 10 := by rw [Nat.pow_succ, Nat.div_div_eq_div_mul]
      generalize n / 10 ^ k = m at *
      have ht := fun w => tenth_t (m : Int) (by omega) hm w
      rw [show (m : Int) / 10 = ((m / 10 : Nat) : Int) by omega] at ht
      have HR := Lib.hid (And.intro R0 (And.intro R1 hb))
      have HS := Lib.hid (And.intro hset hnx)
      clear R0 R1 hb hset hnx
      go_wp2_with fail
      refine (ht _).mono ?_
      rintro e w1 ⟨rfl, hb2⟩
      obtain ⟨R0, R1, hb⟩ := HR.out
      replace R0 := R0.later hb2
      replace R1 := R1.later hb2
      replace hb := below_step hb hb2
      clear hb2 ht HR c0 c1
      have c0 := (R0.cell 0).trans (show _ = some (Value.int .u64 (hi (m : Nat))) from rfl)
      have c1 := (R0.cell 1).trans (show _ = some (Value.int .u64 (lo (m : Nat))) from rfl)
      have f0 := R0.frozen 0
      have f1 := R0.frozen 1
      have d0 := (R1.cell (38 - k)).trans (cells39_get n k (38 - k) (by omega))
      have f2 := R1.frozen (38 - k)
      have q1 : (38 - (k : Int)) = ((38 - k : Nat) : Int) := by omega
      have q2 : 0 ≤ (m : Int) % 10 ∧ (m : Int) % 10 < 10 := by omega
      have q3 : ((48 + m % 10 : Nat) : Int) = 48 + (m : Int) % 10 := by omega
      rw [q3] at HS
      generalize (m : Int) % 10 = r at *
      have q4 : IntKind.u8.wrap (48 + r) = 48 + r := by simp [IntKind.wrap, IntKind.bits, IntKind.signed]; omega
      have HR := Lib.hid (And.intro R0 (And.intro R1 hb))
      clear R0 R1 hb q3 
      go_wp2
      obtain ⟨R0, R1, hb⟩ := HR.out
      obtain ⟨hset, hnx⟩ := HS.out
      refine ⟨⟨k + 1, by omega, by go_num, ?_, ?_, ?_⟩, by simp [intOf]; omega⟩
      · rw [hnx]
        exact ((R0.set 0 (.int .u64 (hi (m / 10 : Nat)))).set 1 (.int .u64 (lo (m / 10 : Nat)))).set_far _ _ (by simp)
      · rw [← hset]
        exact ((R1.set_far _ _ (by simp)).set_far _ _ (by simp)).set _ _
      · exact (by repeat (first | exact Below.refl _ _ | assumption | (with_reducible refine Below.setCell ?_ ?h _; case h => first | omega | (simp; done) | (simp; omega)) | (with_reducible refine Below.alloc ?_ ?h _; case h => first | omega | (simp; done) | (simp; omega)) | (with_reducible refine Below.drew ?_) | (with_reducible refine Below.trans ?_ (hb4.mono ?h); case h => first | omega | (simp; done) | (simp; omega)) | (with_reducible refine Below.trans ?_ (hb3.mono ?h); case h => first | omega | (simp; done) | (simp; omega)) | (with_reducible refine Below.trans ?_ (hb2.mono ?h); case h => first | omega | (simp; done) | (simp; omega)) | (with_reducible refine Below.trans ?_ (hb.mono ?h); case h => first | omega | (simp; done) | (simp; omega)) | (with_reducible refine Below.trans ?_ (hb0.mono ?h); case h => first | omega | (simp; done) | (simp; omega))))
    · obtain rfl : k = 39 := by omega
      have hA := fun q => conv39a n (R1.drewN q)
      have hB := fun q => conv39b n (R1.drewN q)
      have s1 := fun q => cutA39l (wr.drewN q) (w.heap.size + 1)
      have s2 := fun q => cutA39h (wr.drewN q) (w.heap.size + 1)
      have ht := fun q => Calls.quiet_of_same (n := q) (Tryd.strings_TrimLeft_one ⟨(digsL 38 (n / 10)).toArray⟩ 48 (by decide) (wr.drewN q))
      have htr := trim_last n (by have h : (MM : Int) = 340282366920938463463374607431768211456 := rfl; have : (10 : Nat) ^ 39 = 1000000000000000000000000000000000000000 := by rfl
                                  omega)
      unfold Lib.trimLeftB at ht
      dsimp only at ht
      have htl : ((digsL 38 (n / 10)).dropWhile (· == 48)).length ≤ 38 := by
        have := (List.dropWhile_sublist (l := digsL 38 (n / 10)) (· == 48)).length_le
        rwa [digsL_length] at this
      generalize (digsL 38 (n / 10)).dropWhile (· == 48) = tl at *
      have hle : ¬ 9223372036854775807 < tl.length + 1 := by omega
      have hle2 : ¬ 9223372036854775807 < (⟨tl.toArray⟩ : ByteArray).size + (⟨#[dg n]⟩ : ByteArray).size := by rw [bs_size]; exact hle
      have HB := Lib.hid hb
      have HT := Lib.hid htr
      clear htr R0 R1 hb
      go_wp2_with fail
      go_quiet (first | (go_at_call 19; exact ht _))
      go_wp2
      go_ret
      refine ⟨?_, below_drewN HB.out _⟩
      rw [← HT.out, ba_add]; rfl
set_option maxHeartbeats 800000 in
theorem nprint_t (n : Nat) (hn : n < 18446744073709551616) (w : World) : Calls Tryd.prog 10 #[.int .u64 (n : Int)] w fun e w' => e = .returned (.string ⟨(decN n).toArray⟩) ∧ Below w.heap.size w w' := by
  have h1 : hi (n : Int) = 0 := by unfold hi; omega
  have h2 : lo (n : Int) = n := by unfold lo; omega
  have hw := fun w => nwide_t n (by have h : (MM : Int) = 340282366920938463463374607431768211456 := rfl; omega) w
  rw [h1, h2] at hw
  have hb : Below w.heap.size w w := Below.refl _ _
  go_enter Tryd.func10, Tryd.ntmps10
  go_wp2_with fail
  refine (of_any (n : Int) _).mono ?_
  rintro e w1 ⟨rfl, hb2⟩
  replace hb := below_step hb hb2
  clear hb2 
  go_wp2_with fail
  refine (hw _).mono ?_
  rintro e w2 ⟨rfl, hb2⟩
  replace hb := below_step hb hb2
  clear hb2 
  go_wp2
  go_ret
  exact ⟨rfl, hb⟩
end Go.Proofs.YtbhaoafngneclaaDoor
