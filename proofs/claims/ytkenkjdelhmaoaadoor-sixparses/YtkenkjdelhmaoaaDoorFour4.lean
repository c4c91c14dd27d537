/- Texts of package four read back; alive. No conditions beyond ranges. -/
import Derived.Test.YtkenkjdelhmaoaaDoorFour3
namespace Go.Proofs.YtkenkjdelhmaoaaDoor
set_option linter.unusedVariables false
set_option linter.unusedSimpArgs false
open Go.RowKit
theorem index_dot : ∀ (d r : List UInt8), (46 : UInt8) ∉ d → Lib.index (d ++ 46 :: r) [46] = d.length
  | [], r, _ => by simp [Lib.index, List.isPrefixOf]
  | c :: d, r, h => by
    have hc : ¬ (46 : UInt8) = c := fun e => h (by rw [e]; simp)
    have ih := index_dot d r (fun hm => h (List.mem_cons_of_mem _ hm))
    rw [List.cons_append, Lib.index, ih]
    have h1 : ([46] : List UInt8).isPrefixOf (c :: (d ++ 46 :: r)) = false := by simp [List.isPrefixOf, hc]
    have h2 : (((d.length : Nat) : Int) == -1) = false := by rw [beq_eq_false_iff_ne]; omega
    rw [h1, h2]
    simp
theorem index_nodot : ∀ (d : List UInt8), (46 : UInt8) ∉ d → Lib.index d [46] = -1
  | [], _ => rfl
  | c :: d, h => by
    have hc : ¬ (46 : UInt8) = c := fun e => h (by rw [e]; simp)
    have ih := index_nodot d (fun hm => h (List.mem_cons_of_mem _ hm))
    rw [Lib.index, ih]
    have h1 : ([46] : List UInt8).isPrefixOf (c :: d) = false := by simp [List.isPrefixOf, hc]
    rw [h1]
    simp
theorem cut_dot (d r : List UInt8) (h : (46 : UInt8) ∉ d) : cutP (d ++ 46 :: r) = d ∧ cutA (d ++ 46 :: r) = r := by
  unfold cutP cutA Lib.cut
  rw [index_dot d r h, if_pos (by omega)]
  simp
theorem cut_nodot (d : List UInt8) (h : (46 : UInt8) ∉ d) : cutP d = d := by
  unfold cutP Lib.cut
  rw [index_nodot d h, if_neg (by omega)]
def B4 (b : Int) : Prop := 0 ≤ b ∧ b ≤ 255
theorem dec_all : ∀ n : Fin 256, (46 : UInt8) ∉ Lib.decDigits n ∧ Lib.parseUintB 8 (Lib.decDigits n) = .ok (n : Nat) := by decide +kernel
theorem dec_byte {b : Int} (h : B4 b) : (46 : UInt8) ∉ Lib.decDigits b.toNat ∧ Lib.parseUintB 8 (Lib.decDigits b.toNat) = .ok b.toNat :=
  dec_all ⟨b.toNat, by unfold B4 at h; omega⟩
theorem txt4_is (b0 b1 b2 b3 : Int) : txt4 b0 b1 b2 b3 = Lib.decDigits b0.toNat ++ 46 :: (Lib.decDigits b1.toNat ++ 46 :: (Lib.decDigits b2.toNat ++ 46 :: Lib.decDigits b3.toNat)) := by
  unfold txt4
  simp [Lib.join_cons, Lib.joinTail]
theorem byteI_part (b0 b1 b2 b3 : Int) (h0 : B4 b0) (h1 : B4 b1) (h2 : B4 b2) (h3 : B4 b3) : byteI (part4 b0 b1 b2 b3 4) 0 = b0 ∧ byteI (part4 b0 b1 b2 b3 4) 1 = b1 ∧ byteI (part4 b0 b1 b2 b3 4) 2 = b2 ∧ byteI (part4 b0 b1 b2 b3 4) 3 = b3 := by
  unfold B4 at *
  simp only [part4, byteI]
  simp
  omega
theorem parse_txt (b0 b1 b2 b3 : Int) (h0 : B4 b0) (h1 : B4 b1) (h2 : B4 b2) (h3 : B4 b3) : parse4 (txt4 b0 b1 b2 b3) = (part4 b0 b1 b2 b3 4, 0) := by
  obtain ⟨n0, p0⟩ := dec_byte h0
  obtain ⟨n1, p1⟩ := dec_byte h1
  obtain ⟨n2, p2⟩ := dec_byte h2
  obtain ⟨n3, p3⟩ := dec_byte h3
  have e := txt4_is b0 b1 b2 b3
  have c0 := cut_dot _ (Lib.decDigits b1.toNat ++ 46 :: (Lib.decDigits b2.toNat ++ 46 :: Lib.decDigits b3.toNat)) n0
  have c1 := cut_dot _ (Lib.decDigits b2.toNat ++ 46 :: Lib.decDigits b3.toNat) n1
  have c2 := cut_dot _ (Lib.decDigits b3.toNat) n2
  have c3 := cut_nodot _ n3
  rw [← e] at c0
  have r1 : restL (txt4 b0 b1 b2 b3) 1 = Lib.decDigits b1.toNat ++ 46 :: (Lib.decDigits b2.toNat ++ 46 :: Lib.decDigits b3.toNat) := c0.2
  have r2 : restL (txt4 b0 b1 b2 b3) 2 = Lib.decDigits b2.toNat ++ 46 :: Lib.decDigits b3.toNat := by show cutA (restL _ 1) = _; rw [r1]; exact c1.2
  have r3 : restL (txt4 b0 b1 b2 b3) 3 = Lib.decDigits b3.toNat := by show cutA (restL _ 2) = _; rw [r2]; exact c2.2
  have q0 : numP (restL (txt4 b0 b1 b2 b3) 0) = some b0.toNat := by show numP (txt4 b0 b1 b2 b3) = _; unfold numP; rw [c0.1, p0]
  have q1 : numP (restL (txt4 b0 b1 b2 b3) 1) = some b1.toNat := by rw [r1]; unfold numP; rw [c1.1, p1]
  have q2 : numP (restL (txt4 b0 b1 b2 b3) 2) = some b2.toNat := by rw [r2]; unfold numP; rw [c2.1, p2]
  have q3 : numP (restL (txt4 b0 b1 b2 b3) 3) = some b3.toNat := by rw [r3]; unfold numP; rw [c3, p3]
  have u0 : uI (txt4 b0 b1 b2 b3) 0 = b0 := by unfold uI; rw [q0]; unfold B4 at h0; simp; omega
  have u1 : uI (txt4 b0 b1 b2 b3) 1 = b1 := by unfold uI; rw [q1]; unfold B4 at h1; simp; omega
  have u2 : uI (txt4 b0 b1 b2 b3) 2 = b2 := by unfold uI; rw [q2]; unfold B4 at h2; simp; omega
  have u3 : uI (txt4 b0 b1 b2 b3) 3 = b3 := by unfold uI; rw [q3]; unfold B4 at h3; simp; omega
  have ha : adr (txt4 b0 b1 b2 b3) = part4 b0 b1 b2 b3 4 := by unfold adr; rw [u0, u1, u2, u3]
  obtain ⟨y0, y1, y2, y3⟩ := byteI_part b0 b1 b2 b3 h0 h1 h2 h3
  have hp : print4 (part4 b0 b1 b2 b3 4) = txt4 b0 b1 b2 b3 := by unfold print4; rw [y0, y1, y2, y3]
  have hall : all4 (txt4 b0 b1 b2 b3) := by
    intro i hi
    rcases i with _ | _ | _ | _ | i
    · rw [q0]; rfl
    · rw [q1]; rfl
    · rw [q2]; rfl
    · rw [q3]; rfl
    · omega
  unfold parse4
  rw [ha, if_pos ⟨hall, hp⟩]
theorem parse_print (a : Int) (a0 : 0 ≤ a) (a1 : a ≤ 4294967295) : parse4 (print4 a) = (a, 0) := by
  have h := parse_txt (byteI a 0) (byteI a 1) (byteI a 2) (byteI a 3) (byteI_range a 0) (byteI_range a 1) (byteI_range a 2) (byteI_range a 3)
  rw [part4_bytes a a0 a1] at h
  exact h
/-- what is read is what is printed -/
theorem parse_ok {l : List UInt8} (h : (parse4 l).2 = 0) : print4 (parse4 l).1 = l ∧ 0 ≤ (parse4 l).1 ∧ (parse4 l).1 ≤ 4294967295 := by
  have har := adr_range l
  by_cases hc : all4 l ∧ print4 (adr l) = l
  · have e : parse4 l = (adr l, 0) := by unfold parse4; rw [if_pos hc]
    rw [e]; exact ⟨hc.2, har⟩
  · have e : parse4 l = (0, 3) := by unfold parse4; rw [if_neg hc]
    rw [e] at h; cases h
theorem parse_range (l : List UInt8) : 0 ≤ (parse4 l).1 ∧ (parse4 l).1 ≤ 4294967295 := by
  have har := adr_range l
  unfold parse4
  split
  · exact har
  · exact ⟨by decide, by decide⟩
theorem parse_err (l : List UInt8) : (parse4 l).2 = 0 ∨ (parse4 l).2 = 3 := by
  unfold parse4
  split
  · exact .inl rfl
  · exact .inr rfl
theorem txt_a : txt4 10 0 0 1 = [49, 48, 46, 48, 46, 48, 46, 49] := by decide +kernel
theorem parse_a : parse4 [49, 48, 46, 48, 46, 48, 46, 49] = (167772161, 0) := by
  rw [← txt_a, parse_txt 10 0 0 1 ⟨by decide, by decide⟩ ⟨by decide, by decide⟩ ⟨by decide, by decide⟩ ⟨by decide, by decide⟩]; rfl
theorem parse_b : parse4 [49, 48, 46, 48, 46, 48, 46, 48, 49] = (0, 3) := by
  unfold parse4
  rw [if_neg]
  intro h
  exact absurd h.2 (by decide +kernel)
theorem parse_c : parse4 [49, 48, 46, 48, 46, 48] = (0, 3) := by
  unfold parse4
  rw [if_neg]
  intro h
  exact absurd h.2 (by decide +kernel)
theorem print_a : print4 167772161 = [49, 48, 46, 48, 46, 48, 46, 49] := by decide +kernel
set_option maxRecDepth 100000 in
set_option maxHeartbeats 1600000 in
theorem alive3_t (w : World) (hE : Env w) : Calls Tryd.prog 11 #[] w fun e w' => e = .returned (.bool true) ∧ Below w.heap.size w w' := by
  have p1 := fun w hE => parse4_t [49, 48, 46, 48, 46, 48, 46, 49] (by decide) w hE
  have p2 := fun w hE => parse4_t [49, 48, 46, 48, 46, 48, 46, 48, 49] (by decide) w hE
  have p3 := fun w hE => parse4_t [49, 48, 46, 48, 46, 48] (by decide) w hE
  rw [parse_a] at p1
  rw [parse_b] at p2
  rw [parse_c] at p3
  have P1 := Lib.hid p1
  have P2 := Lib.hid p2
  have P3 := Lib.hid p3
  clear p1 p2 p3
  go_enter Tryd.func11, Tryd.ntmps11
  go_wp2_with fail
  refine (P1.out w hE).mono ?_
  rintro r w1 ⟨rfl, hb1⟩
  have HB1 := Lib.hid hb1
  clear hb1
  go_wp2_with fail
  refine (P2.out w1 (hE.later HB1.out)).mono ?_
  rintro r w2 ⟨rfl, hb2⟩
  have HB2 := Lib.hid (below_step HB1.out hb2)
  clear hb2
  go_wp2_with fail
  refine (P3.out w2 (hE.later HB2.out)).mono ?_
  rintro r w3 ⟨rfl, hb3⟩
  have HB3 := Lib.hid (below_step HB2.out hb3)
  clear hb3
  go_wp2_with fail
  refine (print4_t 167772161 (by decide) (by decide) w3 (hE.later HB3.out)).mono ?_
  rintro r w4 ⟨rfl, hb4⟩
  have HB4 := Lib.hid (below_step HB3.out hb4)
  clear hb4
  rw [print_a]
  go_wp2_with fail
  refine (of4_t 10 0 0 1 (by decide) (by decide) (by decide) (by decide) w4).mono ?_
  rintro r w5 ⟨rfl, hb5⟩
  have HB5 := Lib.hid (below_step HB4.out hb5)
  clear hb5
  rw [show part4 10 0 0 1 4 = 167772161 by decide]
  go_wp2_with fail
  refine (top4_t 167772161 8 (by decide) (by decide) w5).mono ?_
  rintro r w6 ⟨rfl, rfl⟩
  rw [show top4 167772161 8 = 167772160 by decide +kernel]
  go_wp2_with fail
  refine (mask4_t 32 w5).mono ?_
  rintro r w6 ⟨rfl, rfl⟩
  rw [show mask4 32 = 4294967295 by decide +kernel]
  go_wp2
  go_ret
  exact ⟨rfl, HB5.out⟩
end Go.Proofs.YtkenkjdelhmaoaaDoor
