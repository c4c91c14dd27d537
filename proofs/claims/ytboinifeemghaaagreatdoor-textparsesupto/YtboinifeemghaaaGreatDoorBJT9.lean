/- T9, SixR10, AliveN, RZ, BitsN, RefOfN, Ref2N, RefAddN, NR1, NR2, NR3, NR4, D9, D10, D11, KR9, D12, R9a, TR1, SixR9, TR2, TR3: what the theorem needs of these texts. No conditions beyond those that are written. -/
import Derived.Test.YtboinifeemghaaaGreatDoorBJT6
import Derived.Test.YtboinifeemghaaaGreatDoorBT8
set_option linter.unusedSimpArgs false
set_option linter.unusedVariables false
set_option maxHeartbeats 32000000
set_option maxRecDepth 100000
namespace Go.Proofs.YtboinifeemghaaaGreatDoor
open Go.RowKit
theorem countB_l (t : List UInt8) (c : UInt8) : Lib.countB ⟨t.toArray⟩ ⟨#[c]⟩ = t.count c := by
 show Lib.count t [c] = t.count c
 exact Lib.count_one c t
theorem index_at (c : UInt8) (a b : List UInt8) (h : c ∉ a) : Lib.index (a ++ c :: b) [c] = a.length := by
 have h1 := index_word [c] c rfl a (c :: b) h
 have h0 : Lib.index (c :: b) [c] = 0 := by
  rw [Lib.index_one]; unfold Lib.indexByte; simp
 rw [h0] at h1
 rw [h1]; simp
theorem split_one (t : List UInt8) (c : UInt8) : (Lib.splitB ⟨#[c]⟩ 0 0 ⟨t.toArray⟩).map Value.string = [.string ⟨t.toArray⟩] := rfl
theorem split_two (a b : List UInt8) (c : UInt8) (h : c ∉ a) : (Lib.splitB ⟨#[c]⟩ 0 1 ⟨(a ++ c :: b).toArray⟩).map Value.string = [.string ⟨a.toArray⟩, .string ⟨b.toArray⟩] := by
 have hi : Lib.indexB ⟨(a ++ c :: b).toArray⟩ ⟨#[c]⟩ = ((a.length : Nat) : Int) := index_at c a b h
 rw [Lib.splitB_hit _ _ _ _ _ hi, Lib.splitB_zero]
 have e1 : (⟨(a ++ c :: b).toArray⟩ : ByteArray).extract 0 (a.length + 0) = ⟨a.toArray⟩ := by rw [ext_l]; simp
 have e2 : (⟨(a ++ c :: b).toArray⟩ : ByteArray).extract (a.length + (⟨#[c]⟩ : ByteArray).size) (⟨(a ++ c :: b).toArray⟩ : ByteArray).size = ⟨b.toArray⟩ := by
  rw [ext_l, bsz, bsz, List.take_length]
  have : (a ++ c :: b).drop (a.length + [c].length) = b := by rw [← List.drop_drop, List.drop_left]; rfl
  rw [this]
 rw [e1, e2]; rfl
theorem count_t (t : List UInt8) (c : UInt8) (w : World) : Calls Tryz.prog 48 #[.string ⟨t.toArray⟩, .string ⟨#[c]⟩] w fun e w' => e = .returned (.int .i64 (t.count c)) ∧ Below w.heap.size w w' := by
 refine (Tryz.strings_Count_one ⟨t.toArray⟩ c w).mono ?_
 rintro e w' ⟨rfl, rfl⟩
 exact ⟨rfl, Below.refl _ _⟩
theorem split1_t (t : List UInt8) (hl : t.length ≤ 2000000) (c : UInt8) (h : t.count c = 0) (w : World) (hE : Env w) : Calls Tryz.prog 49 #[.string ⟨t.toArray⟩, .string ⟨#[c]⟩] w fun e w' => e = .returned (.slice (some ⟨w.heap.size, 0, none⟩) 1 1) ∧ w' = w.alloc (.cells #[.string ⟨t.toArray⟩] 9) := by
 obtain ⟨m, hm⟩ := hE.m
 have hs := Tryz.strings_Split ⟨t.toArray⟩ ⟨#[c]⟩ m w (by rw [bsz]; omega) hm (Nat.le_refl 1)
 rw [countB_l, h, split_one] at hs
 exact hs
theorem split2_t (a b : List UInt8) (c : UInt8) (hl : (a ++ c :: b).length ≤ 2000000) (ha : c ∉ a) (h : (a ++ c :: b).count c = 1) (w : World) (hE : Env w) : Calls Tryz.prog 49 #[.string ⟨(a ++ c :: b).toArray⟩, .string ⟨#[c]⟩] w fun e w' => e = .returned (.slice (some ⟨w.heap.size, 0, none⟩) 2 2) ∧ w' = w.alloc (.cells #[.string ⟨a.toArray⟩, .string ⟨b.toArray⟩] 9) := by
 obtain ⟨m, hm⟩ := hE.m
 have hs := Tryz.strings_Split ⟨(a ++ c :: b).toArray⟩ ⟨#[c]⟩ m w (by rw [bsz]; omega) hm (Nat.le_refl 1)
 rw [countB_l, h, split_two a b c ha] at hs
 exact hs
theorem tparse_t (s : Sp) (t : List UInt8) (hl : t.length ≤ 2000000) (w : World) (hE : Env w) : Calls Tryz.prog 17 #[sv s, .string ⟨t.toArray⟩] w fun e w' => e = .returned (.tuple #[pv (parseS s t).1, .int .i64 (parseS s t).2]) ∧ Below w.heap.size w w' := by
 have HR := fun (w' : World) (_ : Below w.heap.size w w') => sound_t s w'
 have HC := fun (w' : World) (_ : Below w.heap.size w w') => count_t t 62 w'
 cases hs : soundS s with
 | false =>
  simp only [hs] at HR
  have e : parseS s t = (pz, 1) := by unfold parseS; rw [if_neg (by rw [hs]; decide)]
  rw [e]
  exact tps_bad s _ w HR
 | true =>
  simp only [hs] at HR
  obtain ⟨hd0, _, hd⟩ := sound_dims hs
  have hps : parseS s t = if (t.count 62 : Int) = s.n - 1 then (if s.n = 1 then parse1 s t else parse2 s (Lib.cut t [62]).1 (Lib.cut t [62]).2.1) else (pz, 3) := by unfold parseS; rw [if_pos hs]
  rw [hps]
  clear hps
  obtain ⟨n, d0, d1⟩ := s
  rcases hd with ⟨hn, _⟩ | ⟨hn, _⟩
  ·dsimp only at hn
   subst hn
   by_cases hc : t.count 62 = 0
   ·rw [if_pos (by rw [hc]; rfl), if_pos rfl]
    rw [hc] at HC
    have HS := fun (w' : World) (hb : Below w.heap.size w w') => split1_t t hl 62 hc w' (hE.later hb)
    have HP := fun (w' : World) (hb : Below w.heap.size w w') => ppart_t d0 t hl w' (hE.later hb)
    unfold parse1
    by_cases h0 : (ppD d0 t).2.2 = 0
    ·rw [if_pos h0]
     simp only [h0] at HP
     exact tps_1o ⟨1, d0, d1⟩ _ _ _ _ w HR HC HS HP
    ·rw [if_neg h0]
     exact tps_1e ⟨1, d0, d1⟩ _ _ _ _ _ h0 w HR HC HS HP
   ·rw [if_neg (show ¬ ((t.count 62 : Nat) : Int) = 1 - 1 by omega)]
    exact tps_no1 ⟨1, d0, d1⟩ _ _ (show ¬ ((t.count 62 : Nat) : Int) = 0 by omega) w HR HC
  ·dsimp only at hn
   subst hn
   by_cases hc : t.count 62 = 1
   ·rw [if_pos (by rw [hc]; rfl), if_neg (show ¬ (2 : Int) = 1 by decide)]
    rw [hc] at HC
    obtain ⟨a, b, rfl, ha, hb⟩ := count_one hc
    rw [cut_at 62 a b ha]
    dsimp only
    have hla : a.length ≤ 2000000 := by rw [List.length_append, List.length_cons] at hl; omega
    have hlb : b.length ≤ 2000000 := by rw [List.length_append, List.length_cons] at hl; omega
    have HS := fun (w' : World) (hb : Below w.heap.size w w') => split2_t a b 62 hl ha hc w' (hE.later hb)
    have HP := fun (w' : World) (hb : Below w.heap.size w w') => ppart_t d0 a hla w' (hE.later hb)
    have HQ := fun (w' : World) (hb : Below w.heap.size w w') => ppart_t d1 b hlb w' (hE.later hb)
    unfold parse2
    dsimp only
    by_cases h0 : (ppD d0 a).2.2 = 0
    ·rw [if_pos h0]
     simp only [h0] at HP
     by_cases h1 : (ppD d1 b).2.2 = 0
     ·rw [if_pos h1]
      simp only [h1] at HQ
      exact tps_2oo ⟨2, d0, d1⟩ _ _ _ _ _ _ _ w HR HC HS HP HQ
     ·rw [if_neg h1]
      exact tps_2oe ⟨2, d0, d1⟩ _ _ _ _ _ _ _ _ h1 w HR HC HS HP HQ
    ·rw [if_neg h0]
     exact tps_2e ⟨2, d0, d1⟩ _ _ _ _ _ _ h0 w HR HC HS HP
   ·rw [if_neg (show ¬ ((t.count 62 : Nat) : Int) = 2 - 1 by omega)]
    exact tps_no2 ⟨2, d0, d1⟩ _ _ (show ¬ ((t.count 62 : Nat) : Int) = 1 by omega) w HR HC
theorem rparse6_at (l : List UInt8) (hl : l.length ≤ 2000000) (kx : Nat) (hix : Lib.index l [58, 58] = (kx : Int)) (hk : kx + 2 ≤ l.length) (hcc : cc l = (l.take kx, l.drop (kx + 2), true)) (w : World) : Calls Tryz.prog 68 #[.string ⟨l.toArray⟩] w (RParPost (parse6 l) w) := by
 have hsz := bs_size4 l
 have hpd : parse6 l = match readV false (l.take kx), readV true (l.drop (kx + 2)) with
   | some u, some v => if u.length + v.length ≤ 7 then some (u ++ List.replicate (8 - u.length - v.length) 0 ++ v) else none
   | _, _ => none := by
  unfold parse6
  rw [hcc]
  dsimp only
  rw [show (!true) = false from rfl]
  cases readV false (l.take kx) with
  | none => cases readV true (l.drop (kx + 2)) <;> rfl
  | some u =>
   cases readV true (l.drop (kx + 2)) with
   | none => rfl
   | some v =>
    dsimp only
    by_cases h7 : u.length + v.length ≤ 7
    ·rw [if_pos (by simp [fits, h7]), if_pos h7]
    ·rw [if_neg (by simp [fits, h7]), if_neg h7]
 have hrd1 := fun wq => read_use false (l.take kx) (by rw [List.length_take]; omega) wq
 have hrd2 := fun wq => read_use true (l.drop (kx + 2)) (by rw [List.length_drop]; omega) wq
 have hx1 : (⟨l.toArray⟩ : ByteArray).extract 0 kx = ⟨(l.take kx).toArray⟩ := by rw [ext_l6]; rfl
 have hx2 : (⟨l.toArray⟩ : ByteArray).extract (kx + 2) l.length = ⟨(l.drop (kx + 2)).toArray⟩ := by rw [ext_l6, List.take_length]
 rw [← hx1] at hrd1
 rw [← hx2] at hrd2
 have hrl1 := fun vs (h : readV false (l.take kx) = some vs) => readV_lt h
 have hrl2 := fun vs (h : readV true (l.drop (kx + 2)) = some vs) => readV_lt h
 have HPD := Lib.hid hpd
 have HRL1 := Lib.hid hrl1
 have HRL2 := Lib.hid hrl2
 clear hpd hcc hx1 hx2 hrl1 hrl2
 generalize parse6 l = pr at *
 have q1 : ((kx : Int) + 2).toNat = kx + 2 := by omega
 have q2 : (kx : Int) + 2 ≤ (l.length : Int) := by omega
 have q3 : (kx : Int) ≤ (l.length : Int) := by omega
 go_enter Tryz.func68, Tryz.ntmps68
 go_wp2_with fail
 have R0 : Row (((w.alloc (.cells #[.int .u64 0, .int .u64 0] 75)).alloc (.cells #[.int .u64 0, .int .u64 0] 75)).alloc (.cells #[.int .u16 0, .int .u16 0, .int .u16 0, .int .u16 0, .int .u16 0, .int .u16 0, .int .u16 0, .int .u16 0] 107)) w.heap.size #[.int .u64 0, .int .u64 0] 75 := ((Row.new w _ _).alloc _).alloc _
 have N0 : Row (((w.alloc (.cells #[.int .u64 0, .int .u64 0] 75)).alloc (.cells #[.int .u64 0, .int .u64 0] 75)).alloc (.cells #[.int .u16 0, .int .u16 0, .int .u16 0, .int .u16 0, .int .u16 0, .int .u16 0, .int .u16 0, .int .u16 0] 107)) (w.heap.size + 1) #[.int .u64 0, .int .u64 0] 75 := by simpa using (Row.new (w.alloc (.cells #[.int .u64 0, .int .u64 0] 75)) #[.int .u64 0, .int .u64 0] 75).alloc (.cells #[.int .u16 0, .int .u16 0, .int .u16 0, .int .u16 0, .int .u16 0, .int .u16 0, .int .u16 0, .int .u16 0] 107)
 have G0 : Row (((w.alloc (.cells #[.int .u64 0, .int .u64 0] 75)).alloc (.cells #[.int .u64 0, .int .u64 0] 75)).alloc (.cells #[.int .u16 0, .int .u16 0, .int .u16 0, .int .u16 0, .int .u16 0, .int .u16 0, .int .u16 0, .int .u16 0] 107)) (w.heap.size + 2) (cellsV []) 107 := by
  have h := Row.new ((w.alloc (.cells #[.int .u64 0, .int .u64 0] 75)).alloc (.cells #[.int .u64 0, .int .u64 0] 75)) #[.int .u16 0, .int .u16 0, .int .u16 0, .int .u16 0, .int .u16 0, .int .u16 0, .int .u16 0, .int .u16 0] 107
  rw [show ((w.alloc (.cells #[.int .u64 0, .int .u64 0] 75)).alloc (.cells #[.int .u64 0, .int .u64 0] 75)).heap.size = w.heap.size + 2 by simp] at h
  exact h
 have hb0 : Below w.heap.size w (((w.alloc (.cells #[.int .u64 0, .int .u64 0] 75)).alloc (.cells #[.int .u64 0, .int .u64 0] 75)).alloc (.cells #[.int .u16 0, .int .u16 0, .int .u16 0, .int .u16 0, .int .u16 0, .int .u16 0, .int .u16 0, .int .u16 0] 107)) := (by repeat (first | exact Below.refl _ _ | assumption | (with_reducible refine Below.drew ?_) | ((with_reducible first | refine Below.setCell ?_ ?h _ | refine Below.alloc ?_ ?h _ | refine Below.trans ?_ (hb3.mono ?h) | refine Below.trans ?_ (hb2.mono ?h) | refine Below.trans ?_ (hb0.mono ?h)); case h => first | omega | (simp; done) | (simp; omega))))
 have hz0 : (((w.alloc (.cells #[.int .u64 0, .int .u64 0] 75)).alloc (.cells #[.int .u64 0, .int .u64 0] 75)).alloc (.cells #[.int .u16 0, .int .u16 0, .int .u16 0, .int .u16 0, .int .u16 0, .int .u16 0, .int .u16 0, .int .u16 0] 107)).heap.size = w.heap.size + 3 := by simp
 generalize ((w.alloc (.cells #[.int .u64 0, .int .u64 0] 75)).alloc (.cells #[.int .u64 0, .int .u64 0] 75)).alloc (.cells #[.int .u16 0, .int .u16 0, .int .u16 0, .int .u16 0, .int .u16 0, .int .u16 0, .int .u16 0, .int .u16 0] 107) = w0 at *
 refine (rcut_t l hl w0).mono ?_
 rintro e w1 ⟨rfl, rfl⟩
 rw [hix]
 have HR0 := Lib.hid R0
 have HN0 := Lib.hid N0
 have HG0 := Lib.hid G0
 have HB0 := Lib.hid hb0
 have HRD1 := Lib.hid hrd1
 have HRD2 := Lib.hid hrd2
 clear R0 N0 G0 hb0 hrd1 hrd2 hix
 go_wp2_with fail
 refine (HRD1.out _).mono ?_
 rintro e w2 ⟨hP1, hb2⟩
 have HR1 := Lib.hid (HR0.out.later hb2)
 have HN1 := Lib.hid (HN0.out.later hb2)
 have HG1 := Lib.hid (HG0.out.later hb2)
 have HB1 := Lib.hid (below_step HB0.out hb2)
 have hz2 : w.heap.size + 3 ≤ w2.heap.size := by have := hb2.size; omega
 clear HR0 HN0 HG0 HB0 HRD1 hb2
 cases hq1 : readV false (l.take kx) with
 | none =>
  rw [hq1] at hP1
  subst hP1
  have HP : Hid (pr = none) := Lib.hid (by rw [HPD.out, hq1])
  clear hq1 HPD HRL1 HRL2
  go_wp2_with fail
  refine (HRD2.out _).mono ?_
  rintro e w3 ⟨hP2, hb3⟩
  have HR := Lib.hid (HR1.out.later hb3)
  have HN := Lib.hid (HN1.out.later hb3)
  have HB := Lib.hid (below_step HB1.out hb3)
  clear HR1 HN1 HG1 HB1 HRD2 hb3
  cases hq2 : readV true (l.drop (kx + 2)) with
  | none =>
   rw [hq2] at hP2
   subst hP2
   clear hq2
   have n0 := (HN.out.cell 0).trans (show _ = some (Value.int .u64 0) from rfl)
   have n1 := (HN.out.cell 1).trans (show _ = some (Value.int .u64 0) from rfl)
   have r0 := (HR.out.cell 0).trans (show _ = some (Value.int .u64 0) from rfl)
   have r1 := (HR.out.cell 1).trans (show _ = some (Value.int .u64 0) from rfl)
   have f0 := HR.out.frozen 0
   have f1 := HR.out.frozen 1
   go_wp2
   have Q2 := (HR.out.set 0 (.int .u64 0)).set 1 (.int .u64 0)
   have s0 := (Q2.cell 0).trans (show _ = some (Value.int .u64 0) from rfl)
   have s1 := (Q2.cell 1).trans (show _ = some (Value.int .u64 0) from rfl)
   clear n0 n1 r0 r1 f0 f1
   exact bodyPost_ret (v := .tuple #[.agg #[.int .u64 0, .int .u64 0], .bool false]) (by simp only [results, Tryz.results68]; simp [go_sem, s0, s1]) rfl (by rw [HP.out]; exact ⟨rfl, (HB.out.setCell (p := ⟨w.heap.size, 0, none⟩) (Nat.le_refl _) _).setCell (p := ⟨w.heap.size, 1, none⟩) (Nat.le_refl _) _⟩)
  | some v =>
   rw [hq2] at hP2
   obtain ⟨p2, c2, g2, _, rfl, _, _, _⟩ := hP2
   clear hq2
   have n0 := (HN.out.cell 0).trans (show _ = some (Value.int .u64 0) from rfl)
   have n1 := (HN.out.cell 1).trans (show _ = some (Value.int .u64 0) from rfl)
   have r0 := (HR.out.cell 0).trans (show _ = some (Value.int .u64 0) from rfl)
   have r1 := (HR.out.cell 1).trans (show _ = some (Value.int .u64 0) from rfl)
   have f0 := HR.out.frozen 0
   have f1 := HR.out.frozen 1
   go_wp2
   have Q2 := (HR.out.set 0 (.int .u64 0)).set 1 (.int .u64 0)
   have s0 := (Q2.cell 0).trans (show _ = some (Value.int .u64 0) from rfl)
   have s1 := (Q2.cell 1).trans (show _ = some (Value.int .u64 0) from rfl)
   clear n0 n1 r0 r1 f0 f1
   exact bodyPost_ret (v := .tuple #[.agg #[.int .u64 0, .int .u64 0], .bool false]) (by simp only [results, Tryz.results68]; simp [go_sem, s0, s1]) rfl (by rw [HP.out]; exact ⟨rfl, (HB.out.setCell (p := ⟨w.heap.size, 0, none⟩) (Nat.le_refl _) _).setCell (p := ⟨w.heap.size, 1, none⟩) (Nat.le_refl _) _⟩)
 | some u =>
  rw [hq1] at hP1
  obtain ⟨p1, c1, g1, hul, rfl, hp1, hg1, hc1⟩ := hP1
  have hul2 : u.length ≤ 2000002 := hul
  clear hul
  have HRGS1 := Lib.hid (HRL1.out u hq1)
  have HPD1 := Lib.hid (HPD.out.trans (by rw [hq1]))
  clear HPD HRL1
  have HC1 := Lib.hid hc1
  have HP1 := Lib.hid hp1
  clear hc1 hp1
  go_wp2_with fail
  refine (HRD2.out _).mono ?_
  rintro e w3 ⟨hP2, hb3⟩
  have HR := Lib.hid (HR1.out.later hb3)
  have HN := Lib.hid (HN1.out.later hb3)
  have HG := Lib.hid (HG1.out.later hb3)
  have HB := Lib.hid (below_step HB1.out hb3)
  have HS : Hid (0 < u.length → ∀ (k x : Nat), u[k]? = some x → w3.cell? ⟨g1, k, none⟩ = some (.int .u16 (x : Int))) := Lib.hid (fun h k x hx => cl hb3 (HC1.out h k x hx))
  clear HR1 HN1 HG1 HB1 HRD2 hb3 HC1
  cases hq2 : readV true (l.drop (kx + 2)) with
  | none =>
   rw [hq2] at hP2
   subst hP2
   have HP : Hid (pr = none) := Lib.hid (HPD1.out.trans (by rw [hq2]))
   clear hq2 hq1 HPD1 HRL2
   have n0 := (HN.out.cell 0).trans (show _ = some (Value.int .u64 0) from rfl)
   have n1 := (HN.out.cell 1).trans (show _ = some (Value.int .u64 0) from rfl)
   have r0 := (HR.out.cell 0).trans (show _ = some (Value.int .u64 0) from rfl)
   have r1 := (HR.out.cell 1).trans (show _ = some (Value.int .u64 0) from rfl)
   have f0 := HR.out.frozen 0
   have f1 := HR.out.frozen 1
   go_wp2
   have Q2 := (HR.out.set 0 (.int .u64 0)).set 1 (.int .u64 0)
   have s0 := (Q2.cell 0).trans (show _ = some (Value.int .u64 0) from rfl)
   have s1 := (Q2.cell 1).trans (show _ = some (Value.int .u64 0) from rfl)
   clear n0 n1 r0 r1 f0 f1
   exact bodyPost_ret (v := .tuple #[.agg #[.int .u64 0, .int .u64 0], .bool false]) (by simp only [results, Tryz.results68]; simp [go_sem, s0, s1]) rfl (by rw [HP.out]; exact ⟨rfl, (HB.out.setCell (p := ⟨w.heap.size, 0, none⟩) (Nat.le_refl _) _).setCell (p := ⟨w.heap.size, 1, none⟩) (Nat.le_refl _) _⟩)
  | some v =>
   rw [hq2] at hP2
   obtain ⟨p2, c2, g2, hvl, rfl, hp2, hg2, hc2⟩ := hP2
   have hvl2 : v.length ≤ 2000002 := hvl
   clear hvl
   have HRGS2 := Lib.hid (HRL2.out v hq2)
   have HPD2 : Hid (pr = if u.length + v.length ≤ 7 then some (u ++ List.replicate (8 - u.length - v.length) 0 ++ v) else none) := Lib.hid (HPD1.out.trans (by rw [hq2]))
   have HS2 := Lib.hid hc2
   have HP2 := Lib.hid hp2
   clear hq2 hq1 HPD1 HRL2 hc2 hp2
   by_cases h7 : u.length + v.length ≤ 7
   ·have HP := Lib.hid (HPD2.out.trans (if_pos h7))
    have h7' : ¬ (7 : Int) < (u.length : Int) + (v.length : Int) := by omega
    have hgn1 : g1 ≠ w.heap.size + 2 := by omega
    have hgn2 : g2 ≠ w.heap.size + 2 := by omega
    have HRG : Hid (∀ x ∈ (u ++ List.replicate (8 - u.length - v.length) 0 ++ v), x ≤ 65535) := Lib.hid (fun x hx => by
     simp only [List.mem_append, List.mem_replicate] at hx
     rcases hx with (hx | hx) | hx
     ·exact HRGS1.out x hx
     ·omega
     ·exact HRGS2.out x hx)
    clear HPD2
    go_wp2_with fail
    go_loopw [14] (fun i wr => ∃ (j : Nat), j ≤ u.length ∧ i = .int .i64 (j : Nat) ∧ Hid (Row wr w.heap.size #[.int .u64 0, .int .u64 0] 75) ∧ Hid (Row wr (w.heap.size + 2) (cellsV (u.take j)) 107) ∧ Hid (Below w.heap.size w wr) ∧ Hid (0 < u.length → ∀ (k x : Nat), u[k]? = some x → wr.cell? ⟨g1, k, none⟩ = some (.int .u16 (x : Int))) ∧ Hid (0 < v.length → ∀ (k x : Nat), v[k]? = some x → wr.cell? ⟨g2, k, none⟩ = some (.int .u16 (x : Int)))) (fun i _ => u.length - (intOf i).toNat)
    case atStart => exact ⟨0, by omega, rfl, HR, Lib.hid (by rw [List.take_zero]; exact HG.out), HB, HS, HS2⟩
    case round =>
     clear HR HG HB HS HS2 HN
     obtain ⟨j, hj, rfl, HR, HG, HB, HS, HS2⟩ := hrel
     by_cases hlt : j < u.length
     ·have hlt' : (j : Int) < (u.length : Int) := by omega
      have hx : u[j]? = some u[j] := List.getElem?_eq_getElem hlt
      have sc := HS.out (by omega) j _ hx
      obtain rfl := HP1.out (by omega)
      have g0 := (HG.out.cell j).trans (cellsV_get (u.take j) j (by omega))
      have gf := HG.out.frozen j
      have j8 : (j : Int) < 8 := by omega
      have HSET := Lib.hid (cellsV_take u j hlt (by omega))
      generalize u[j] = x at *
      clear hx
      go_wp2
      refine ⟨⟨j + 1, by omega, by go_num, Lib.hid (HR.out.set_far _ _ (by dsimp only; omega)), Lib.hid ?_, Lib.hid (HB.out.setCell (by dsimp only; omega) _), Lib.hid (fun h k y hy => (World.cell?_setCell_far _ _ _ _ (by dsimp only; omega)).trans (HS.out h k y hy)), Lib.hid (fun h k y hy => (World.cell?_setCell_far _ _ _ _ (by dsimp only; omega)).trans (HS2.out h k y hy))⟩, by simp [intOf]; omega⟩
      rw [← HSET.out]
      exact HG.out.set j _
     ·have hju : j = u.length := by omega
      have hlt' : ¬ (j : Int) < (u.length : Int) := by omega
      have HG2 : Hid (Row wr (w.heap.size + 2) (cellsV (u ++ List.replicate (8 - u.length - v.length) 0 ++ v.take 0)) 107) := Lib.hid (by have := HG.out; rw [hju, List.take_length] at this; rw [List.take_zero, cellsV_pad]; exact this)
      clear HG HS hju
      go_wp2_with fail
      go_loopw [15] (fun i wr => ∃ (j : Nat), j ≤ v.length ∧ i = .int .i64 (j : Nat) ∧ Hid (Row wr w.heap.size #[.int .u64 0, .int .u64 0] 75) ∧ Hid (Row wr (w.heap.size + 2) (cellsV (u ++ List.replicate (8 - u.length - v.length) 0 ++ v.take j)) 107) ∧ Hid (Below w.heap.size w wr) ∧ Hid (0 < v.length → ∀ (k x : Nat), v[k]? = some x → wr.cell? ⟨g2, k, none⟩ = some (.int .u16 (x : Int)))) (fun i _ => v.length - (intOf i).toNat)
      case atStart => exact ⟨0, by omega, rfl, HR, HG2, HB, HS2⟩
      case round =>
       clear HR HG2 HB HS2
       obtain ⟨j, hj, rfl, HR, HG, HB, HS⟩ := hrel
       by_cases hlt2 : j < v.length
       ·have hlt2' : (j : Int) < (v.length : Int) := by omega
        have hx : v[j]? = some v[j] := List.getElem?_eq_getElem hlt2
        have sc := HS.out (by omega) j _ hx
        obtain rfl := HP2.out (by omega)
        have g0 := (HG.out.cell (8 - v.length + j)).trans (cellsV_get _ (8 - v.length + j) (by omega))
        have gf := HG.out.frozen (8 - v.length + j)
        have t1 : (8 - (v.length : Int) + (j : Int)).toNat = 8 - v.length + j := by omega
        have t2 : 0 ≤ 8 - (v.length : Int) + (j : Int) := by omega
        have t3 : 8 - (v.length : Int) + (j : Int) < 8 := by omega
        have HSET := Lib.hid (cellsV_more u v j h7 hlt2)
        generalize v[j] = x at *
        generalize lf (u ++ List.replicate (8 - u.length - v.length) 0 ++ v.take j) (8 - v.length + j) = yy at *
        clear hx
        go_wp2
        refine ⟨⟨j + 1, by omega, by go_num, Lib.hid (HR.out.set_far _ _ (by dsimp only; omega)), Lib.hid ?_, Lib.hid (HB.out.setCell (by dsimp only; omega) _), Lib.hid (fun h k y hy => (World.cell?_setCell_far _ _ _ _ (by dsimp only; omega)).trans (HS.out h k y hy))⟩, by simp [intOf]; omega⟩
        rw [← HSET.out]
        exact HG.out.set (8 - v.length + j) _
       ·have hjv : j = v.length := by omega
        have hlt2' : ¬ (j : Int) < (v.length : Int) := by omega
        replace HG := Lib.hid (show Row _ _ (cellsV (u ++ List.replicate (8 - u.length - v.length) 0 ++ v)) _ by have := HG.out; rwa [hjv, List.take_length] at this)
        clear HS hjv
        generalize (u ++ List.replicate (8 - u.length - v.length) 0 ++ v) = gs at *
        have c0 := (HG.out.cell 0).trans (show _ = some (Value.int .u16 (lf gs 0)) from rfl)
        have c1 := (HG.out.cell 1).trans (show _ = some (Value.int .u16 (lf gs 1)) from rfl)
        have c2 := (HG.out.cell 2).trans (show _ = some (Value.int .u16 (lf gs 2)) from rfl)
        have c3 := (HG.out.cell 3).trans (show _ = some (Value.int .u16 (lf gs 3)) from rfl)
        have c4 := (HG.out.cell 4).trans (show _ = some (Value.int .u16 (lf gs 4)) from rfl)
        have c5 := (HG.out.cell 5).trans (show _ = some (Value.int .u16 (lf gs 5)) from rfl)
        have c6 := (HG.out.cell 6).trans (show _ = some (Value.int .u16 (lf gs 6)) from rfl)
        have c7 := (HG.out.cell 7).trans (show _ = some (Value.int .u16 (lf gs 7)) from rfl)
        go_wp2_with fail
        refine (rof_t (lf gs) (lf_range HRG.out) _).mono ?_
        rintro e w9 ⟨rfl, hb9⟩
        have HR9 := Lib.hid (HR.out.later hb9)
        have HB9 := Lib.hid (below_step HB.out hb9)
        clear hb9 c0 c1 c2 c3 c4 c5 c6 c7
        have r0 := (HR9.out.cell 0).trans (show _ = some (Value.int .u64 0) from rfl)
        have r1 := (HR9.out.cell 1).trans (show _ = some (Value.int .u64 0) from rfl)
        have f0 := HR9.out.frozen 0
        have f1 := HR9.out.frozen 1
        go_wp2
        have Q2 := (HR9.out.set 0 (.int .u64 (hi (ofN (lf gs) 8)))).set 1 (.int .u64 (lo (ofN (lf gs) 8)))
        have s0 := (Q2.cell 0).trans (show _ = some (Value.int .u64 (hi (ofN (lf gs) 8))) from rfl)
        have s1 := (Q2.cell 1).trans (show _ = some (Value.int .u64 (lo (ofN (lf gs) 8))) from rfl)
        clear r0 r1 f0 f1
        exact bodyPost_ret (v := .tuple #[.agg #[.int .u64 (hi (ofN (lf gs) 8)), .int .u64 (lo (ofN (lf gs) 8))], .bool true]) (by simp only [results, Tryz.results68]; simp [go_sem, s0, s1]) rfl (by rw [HP.out]; exact ⟨rfl, (HB9.out.setCell (p := ⟨w.heap.size, 0, none⟩) (Nat.le_refl _) _).setCell (p := ⟨w.heap.size, 1, none⟩) (Nat.le_refl _) _⟩)
   ·have HP : Hid (pr = none) := Lib.hid (HPD2.out.trans (if_neg h7))
    have h7' : (7 : Int) < (u.length : Int) + (v.length : Int) := by omega
    clear HPD2 HRGS1 HRGS2 HS HS2 HG
    have n0 := (HN.out.cell 0).trans (show _ = some (Value.int .u64 0) from rfl)
    have n1 := (HN.out.cell 1).trans (show _ = some (Value.int .u64 0) from rfl)
    have r0 := (HR.out.cell 0).trans (show _ = some (Value.int .u64 0) from rfl)
    have r1 := (HR.out.cell 1).trans (show _ = some (Value.int .u64 0) from rfl)
    have f0 := HR.out.frozen 0
    have f1 := HR.out.frozen 1
    go_wp2
    have Q2 := (HR.out.set 0 (.int .u64 0)).set 1 (.int .u64 0)
    have s0 := (Q2.cell 0).trans (show _ = some (Value.int .u64 0) from rfl)
    have s1 := (Q2.cell 1).trans (show _ = some (Value.int .u64 0) from rfl)
    clear n0 n1 r0 r1 f0 f1
    exact bodyPost_ret (v := .tuple #[.agg #[.int .u64 0, .int .u64 0], .bool false]) (by simp only [results, Tryz.results68]; simp [go_sem, s0, s1]) rfl (by rw [HP.out]; exact ⟨rfl, (HB.out.setCell (p := ⟨w.heap.size, 0, none⟩) (Nat.le_refl _) _).setCell (p := ⟨w.heap.size, 1, none⟩) (Nat.le_refl _) _⟩)
theorem rparse6_t (l : List UInt8) (hl : l.length ≤ 2000000) (w : World) (hno : ∀ (hix : Lib.index l [58, 58] = -1) (hcc : cc l = (l, [], false)), Calls Tryz.prog 68 #[.string ⟨l.toArray⟩] w (RParPost (parse6 l) w)) : Calls Tryz.prog 68 #[.string ⟨l.toArray⟩] w (RParPost (parse6 l) w) := by
 rcases cc_index l with ⟨h1, h2⟩ | ⟨k, h1, h2, h3⟩
 ·exact hno h1 h2
 ·exact rparse6_at l hl k h1 h2 h3 w
def z128 : Array Value := Array.replicate 128 (.int .u64 0)
theorem z128_size : z128.size = 128 := by simp [z128]
theorem z128_ne : ¬ z128 = #[] := fun h => by have := congrArg Array.size h; rw [z128_size] at this; cases this
theorem z128_zero (w : World) : (zeroValue 144).run Tryz.prog w = .ok (.agg z128) w := (zero_of_info (P := Tryz.prog) (t := 144) (v := .agg z128) (n := 128) (by kernel_rfl)).1 w
theorem wp_alloc_run {P : Program} {w : World} {o : Oper} {a : Act} {K : Act → World → Prop} {Q : Exit → Act → World → Prop} (t : TypeId) (zs : Array Value) (ho : o.op = .alloc t) (hz : ∀ w, (zeroValue t).run P w = .ok (.agg zs) w) (hne : ¬ zs = #[])
  (h : K (a.put o.dst (.pointer (some ⟨w.heap.size, 0, none⟩))) (w.alloc (.cells zs t))) : o.wp P a w K Q := by
 unfold Oper.wp execOp
 simp [ho, hz, Instr.alloc, Value.cells, hne]
 exact h
theorem wpList_alloc128 {w : World} {ops : Array Oper} {rest : List Oper} {d : Option Tmp} {ty : TypeId} {pos : String} {af : Array Edge} {a : Act} {Q : Exit → Act → World → Prop}
  (hK : wpList Tryz.prog ops Q rest (a.put d (.pointer (some ⟨w.heap.size, 0, none⟩))) (w.alloc (.cells z128 144))) : wpList Tryz.prog ops Q (⟨d, .alloc 144, ty, pos, af, none⟩ :: rest) a w :=
 wpList_plain rfl fun K hK' => wp_alloc_run 144 z128 rfl z128_zero z128_ne (hK' _ _ hK)
def bitsK (ah al : Int) (k : Nat) : Array Value := Array.ofFn fun j : Fin 128 => Value.int .u64 (if 64 - k ≤ j.val ∧ j.val < 64 then ah / 2 ^ (63 - j.val) % 2 else if 128 - k ≤ j.val then al / 2 ^ (127 - j.val) % 2 else 0)
theorem bitsK_size (ah al : Int) (k : Nat) : (bitsK ah al k).size = 128 := by simp [bitsK]
theorem zeroA : z128 = Array.replicate 128 (.int .u64 0) := rfl
theorem zero_bitsK (ah al : Int) : z128 = bitsK ah al 0 := by
 rw [zeroA]
 apply Array.ext
 ·rw [bitsK_size]; simp
 ·intro i h1 h2
  rw [bitsK_size] at h2
  simp only [bitsK, Array.getElem_ofFn, Array.getElem_replicate]
  rw [if_neg (by omega), if_neg (by omega)]
theorem bitsK_step (ah al : Int) (k : Nat) (hk : k < 64) :
  ((bitsK ah al k).setIfInBounds (63 - k) (.int .u64 (ah / 2 ^ k % 2))).setIfInBounds (127 - k) (.int .u64 (al / 2 ^ k % 2)) = bitsK ah al (k + 1) := by
 apply Array.ext_getElem?
 intro i
 rw [Array.getElem?_setIfInBounds, Array.getElem?_setIfInBounds]
 simp only [Array.size_setIfInBounds, bitsK_size]
 by_cases hi : i < 128
 ·have e : ∀ m, (bitsK ah al m)[i]? = some (Value.int .u64 (if 64 - m ≤ i ∧ i < 64 then ah / 2 ^ (63 - i) % 2 else if 128 - m ≤ i then al / 2 ^ (127 - i) % 2 else 0)) := fun m => by
   rw [Array.getElem?_eq_getElem (by rw [bitsK_size]; exact hi)]; simp [bitsK]
  rw [e, e]
  by_cases h1 : 127 - k = i
  ·subst h1
   rw [if_pos rfl, if_pos (by omega), if_neg (by omega), if_pos (by omega), show 127 - (127 - k) = k by omega]
  ·rw [if_neg h1]
   by_cases h2 : 63 - k = i
   ·subst h2
    rw [if_pos rfl, if_pos (by omega), if_pos (by omega), show 63 - (63 - k) = k by omega]
   ·rw [if_neg h2]
    congr 2
    repeat' split
    all_goals first | rfl | (exfalso; omega)
 ·rw [if_neg (by omega), if_neg (by omega), Array.getElem?_eq_none (by rw [bitsK_size]; omega), Array.getElem?_eq_none (by rw [bitsK_size]; omega)]
theorem cell_at {w : World} {g : Nat} {cs : Array Value} {t : TypeId} (h : Row w g cs t) (j : Nat) (hj : j < cs.size) : w.cell? ⟨g, j, none⟩ = some cs[j] := by
 rw [h.cell j, Array.getElem?_eq_getElem hj]
theorem div2 (x : Int) (k : Nat) : x / 2 ^ k / 2 = x / 2 ^ (k + 1) := by
 rw [Int.pow_succ, Int.ediv_ediv_of_nonneg (Int.pow_nonneg (by decide))]
theorem bitsR_t (ah al : Int) (h1 : Word ah) (h2 : Word al) (w : World) :
  Calls Tryz.prog 109 #[.agg #[.int .u64 ah, .int .u64 al]] w fun e w' => e = .returned (.agg (bitsK ah al 64)) ∧ Below w.heap.size w w' := by
 go_enter Tryz.func109, Tryz.ntmps109
 go_wp2_with (first | (with_reducible refine wpList_alloc128 ?_) | fail)
 go_loopw [4] (fun i wr => ∃ k : Nat, k ≤ 64 ∧ i = .int .i64 k ∧ Row wr w.heap.size #[.int .u64 (ah / 2 ^ k), .int .u64 (al / 2 ^ k)] 75 ∧ Row wr (w.heap.size + 1) z128 144 ∧ Row wr (w.heap.size + 1 + 1) (bitsK ah al k) 144 ∧ Below w.heap.size w wr) (fun i _ => 64 - (intOf i).toNat)
 case atStart => exact ⟨0, by omega, rfl, by simpa using ((Row.new w _ _).alloc _).alloc _, by simpa using (Row.new (w.alloc _) _ _).alloc _, by rw [← zero_bitsK]; simpa using (Row.new ((w.alloc _).alloc _) _ _), (by repeat (first | exact Below.refl _ _ | assumption | (with_reducible refine Below.drew ?_) | ((with_reducible first | refine Below.setCell ?_ ?h _ | refine Below.alloc ?_ ?h _); case h => first | omega | (simp; done) | (simp; omega))))⟩
 case round =>
  obtain ⟨k, hk, rfl, R0, R1, R2, hbw⟩ := hrel
  by_cases hlt : k < 64
  ·have hkb : decide ((k : Int) < 64) = true := by simp; omega
   have c0 := R0.cell 0
   have c1 := R0.cell 1
   simp at c0 c1
   have f0 := R0.frozen 0
   have f1 := R0.frozen 1
   have i1 : (63 - (k : Int)).toNat = 63 - k := by omega
   have i2 : (127 - (k : Int)).toNat = 127 - k := by omega
   have c2 := cell_at R2 (63 - k) (by rw [bitsK_size]; omega)
   have c3 := cell_at R2 (127 - k) (by rw [bitsK_size]; omega)
   have f2 := R2.frozen (63 - k)
   have f3 := R2.frozen (127 - k)
   generalize (bitsK ah al k)[63 - k]'(by rw [bitsK_size]; omega) = v2 at c2
   generalize (bitsK ah al k)[127 - k]'(by rw [bitsK_size]; omega) = v3 at c3
   have ne1 : ¬ (63 - k = 127 - k) := by omega
   have hwa := word_div h1 k
   have hwb := word_div h2 k
   have ga := div2 ah k
   have gb := div2 al k
   have HS := Lib.hid (bitsK_step ah al k hlt)
   obtain ⟨p1, p2⟩ := hwa
   obtain ⟨p3, p4⟩ := hwb
   go_wp2
   refine ⟨⟨k + 1, by omega, by go_num, ?_, ?_, ?_, (by repeat (first | exact Below.refl _ _ | assumption | (with_reducible refine Below.drew ?_) | ((with_reducible first | refine Below.setCell ?_ ?h _ | refine Below.alloc ?_ ?h _); case h => first | omega | (simp; done) | (simp; omega))))⟩, by simp [intOf]; omega⟩
   ·have := (((R0.set_far ⟨w.heap.size + 1 + 1, 63 - k, none⟩ (.int .u64 (ah / 2 ^ k % 2)) (by simp <;> omega)).set_far ⟨w.heap.size + 1 + 1, 127 - k, none⟩ (.int .u64 (al / 2 ^ k % 2)) (by simp <;> omega)).set 0 (.int .u64 (ah / 2 ^ (k + 1)))).set 1 (.int .u64 (al / 2 ^ (k + 1)))
    simpa using this
   ·exact (((R1.set_far _ _ (by simp)).set_far _ _ (by simp)).set_far _ _ (by simp)).set_far _ _ (by simp)
   ·have := (((R2.set (63 - k) (.int .u64 (ah / 2 ^ k % 2))).set (127 - k) (.int .u64 (al / 2 ^ k % 2))).set_far ⟨w.heap.size, 0, none⟩ (.int .u64 (ah / 2 ^ (k + 1))) (by simp <;> omega)).set_far ⟨w.heap.size, 1, none⟩ (.int .u64 (al / 2 ^ (k + 1))) (by simp <;> omega)
    rwa [HS.out] at this
  ·obtain rfl : k = 64 := by omega
   have hth := R1.there (bitsK ah al 64).size (by rw [bitsK_size, zeroA]; simp)
   have hone : (bitsK ah al 64).all (·.oneCell') = true := by
    rw [Array.all_eq_true]; intro i hi; simp [bitsK, Value.oneCell']
   have hi85 : (Tryz.prog.info? 144).map (·.size) = some (bitsK ah al 64).size := by rw [bitsK_size]; kernel_rfl
   go_wp2_with (first
    | (refine wpList_load_row rfl 144 (.tmp 3) rfl (w.heap.size + 1 + 1) rfl 144 (bitsK ah al 64) (0, 0) _ R2 Tryz.underlying144 rfl hi85 ?_)
    | (refine wpList_store_mid rfl 144 (.tmp 2) (.tmp 29) rfl (w.heap.size + 1) 0 (bitsK ah al 64) rfl rfl hth hi85 hone ?_))
   have R3 : Row (wr.setCells (w.heap.size + 1) 0 (bitsK ah al 64).toList) (w.heap.size + 1) (bitsK ah al 64) 144 := R1.setAll _ (by rw [bitsK_size, zeroA]; simp)
   refine bodyPost_ret (v := .agg (bitsK ah al 64)) (results_cell_row Tryz.results109 _ _ (w.heap.size + 1) 144 (bitsK ah al 64) (0, 0) _ rfl R3 Tryz.underlying144 rfl hi85) rfl ⟨rfl, ?_⟩
   exact below_setCells (by omega) _ _ _ hbw
def bitsA (n : Int) : Array Value := Array.ofFn fun j : Fin 128 => Value.int .u64 (n / 2 ^ (127 - j.val) % 2)
theorem bitsA_size (n : Int) : (bitsA n).size = 128 := by simp [bitsA]
theorem bitsK_all (ah al : Int) (h1 : Word ah) (h2 : Word al) : bitsK ah al 64 = bitsA (wv ah al) := by
 unfold bitsK bitsA
 congr 1
 funext j
 congr 1
 have hj := j.isLt
 have key : ∀ m, m < 64 → (ah * 18446744073709551616 + al) / 2 ^ (64 + m) % 2 = ah / 2 ^ m % 2 := fun m _ => by
  rw [Int.pow_add, ← Int.ediv_ediv_of_nonneg (by decide), show (ah * 18446744073709551616 + al) / 2 ^ 64 = ah by obtain ⟨_, _⟩ := h2; omega]
 unfold wv
 by_cases h : j.val < 64
 ·rw [if_pos ⟨by omega, h⟩, show 127 - j.val = 64 + (63 - j.val) by omega, key _ (by omega)]
 ·rw [if_neg (by omega), if_pos (by omega)]
  have hm : 127 - j.val < 64 := by omega
  generalize 127 - j.val = m at *
  have e : (18446744073709551616 : Int) = 2 ^ m * (2 * 2 ^ (63 - m)) := by
   rw [← Int.mul_assoc, Int.mul_comm (2 ^ m) 2, Int.mul_assoc, ← Int.pow_add, show m + (63 - m) = 63 by omega]; rfl
  rw [e, Int.mul_left_comm, Int.add_comm, Int.add_mul_ediv_left _ _ (Int.ne_of_gt (Int.pow_pos (by decide))), Int.mul_left_comm, Int.add_mul_emod_self_left]
theorem bits_h (n : Int) (w : World) :
  Calls Tryz.prog 109 #[.agg #[.int .u64 (hi n), .int .u64 (lo n)]] w fun e w' => e = .returned (.agg (bitsA (n % MM))) ∧ Below w.heap.size w w' := by
 have h := bitsR_t (hi n) (lo n) (word_hi n) (word_lo n) w
 rw [bitsK_all _ _ (word_hi n) (word_lo n), wv_hi_lo] at h
 exact h
def hor (f : Nat → Int) (s : Nat) : Nat → Int
 | 0 => 0
 | k + 1 => 2 * hor f s k + f (s + k)
def arrV (f : Nat → Int) : Array Value := Array.ofFn fun j : Fin 128 => Value.int .u64 (f j.val)
theorem arrV_size (f : Nat → Int) : (arrV f).size = 128 := by simp [arrV]
theorem arrV_get (f : Nat → Int) (j : Nat) (h : j < 128) : (arrV f)[j]? = some (Value.int .u64 (f j)) := by
 rw [Array.getElem?_eq_getElem (by rw [arrV_size]; exact h)]; simp [arrV]
def bitF (n : Int) (j : Nat) : Int := n / 2 ^ (127 - j) % 2
theorem bitsA_one (n : Int) : (bitsA n).all (·.oneCell') = true := by
 rw [Array.all_eq_true]; intro i hi; simp [bitsA, Value.oneCell']
theorem bitsA_info (n : Int) : (Tryz.prog.info? 144).map (·.size) = some (bitsA n).size := by rw [bitsA_size]; kernel_rfl
theorem bitsA_get (n : Int) (j : Nat) (h : j < 128) : (bitsA n)[j]? = some (Value.int .u64 (bitF n j)) := arrV_get (bitF n) j h
def outK (n : Int) (k : Nat) : Array Value := arrV fun j => if 128 - k ≤ j then bitF n j else 0
def crr : List UInt8 → Nat → Nat
 | [], o => o
 | c :: r, o => (2 * (c.toNat - 48) + crr r o) / 10
def dbl : List UInt8 → Nat → List UInt8
 | [], _ => []
 | c :: r, o => dg (2 * (c.toNat - 48) + crr r o) :: dbl r o
theorem dbl_len : ∀ (l : List UInt8) (o : Nat), (dbl l o).length = l.length
 | [], _ => rfl
 | c :: r, o => by rw [dbl, List.length_cons, dbl_len r, List.length_cons]
theorem crr_le : ∀ (l : List UInt8) (o : Nat), digs l → o ≤ 1 → crr l o ≤ 1
 | [], o, _, h => h
 | c :: r, o, hl, h => by
  have h1 := hl c (by simp)
  have h2 := crr_le r o (fun e he => hl e (by simp [he])) h
  rw [crr]; omega
theorem dbl_get : ∀ (l : List UInt8) (o k : Nat) (h : k < l.length), (dbl l o)[k]? = some (dg (2 * (l[k].toNat - 48) + crr (l.drop (k + 1)) o))
 | [], _, _, h => by simp at h
 | c :: r, o, 0, _ => by rw [dbl]; rfl
 | c :: r, o, k + 1, h => by rw [dbl, List.getElem?_cons_succ, dbl_get r o k (by simpa using h)]; rfl
theorem crr_step (l : List UInt8) (o k : Nat) (h : k < l.length) : crr (l.drop k) o = (2 * (l[k].toNat - 48) + crr (l.drop (k + 1)) o) / 10 := by
 rw [List.drop_eq_getElem_cons h, crr]
theorem digs_drop {l : List UInt8} (h : digs l) (k : Nat) : digs (l.drop k) := fun c hc => h c (List.mem_of_mem_drop hc)
def DblAt (l : List UInt8) (o g j : Nat) (w : World) : Prop := ∀ k, k < l.length → w.cell? ⟨g, k, none⟩ = some (.int .u8 ((if k < j then l.getD k 0 else (dbl l o).getD k 0).toNat : Int)) ∧ w.frozen? ⟨g, k, none⟩ = false
theorem DblAt.step {l : List UInt8} {o g j : Nat} {w : World} (h : DblAt l o g (j + 1) w) (hj : j < l.length) (x : Int) (hx : x = ((dg (2 * (l[j].toNat - 48) + crr (l.drop (j + 1)) o)).toNat : Int)) : DblAt l o g j (w.setCell ⟨g, j, none⟩ (.int .u8 x)) := by
 intro k hk
 refine ⟨?_, by rw [World.frozen?_setCell]; exact (h k hk).2⟩
 by_cases e : k = j
 ·subst e
  rw [World.cell?_setCell_same (h := (h k hk).1), if_neg (by omega), hx, List.getD_eq_getElem?_getD, dbl_get l o k hk]; rfl
 ·rw [World.cell?_setCell_other (h := fun he => e (by injection he with _ h2; exact h2.symm)), (h k hk).1]
  by_cases e2 : k < j
  ·rw [if_pos (by omega), if_pos e2]
  ·rw [if_neg (by omega), if_neg e2]
theorem bytesWorld_frozen (w : World) (s : ByteArray) (j : Nat) (hj : j < s.size) : (Lib.bytesWorld w 5 s).frozen? ⟨w.heap.size, j, none⟩ = false := by
 have h1 := Lib.bytesWorld_at_new w 5 s
 have h2 := Lib.bytesWorld_cell w 5 s j hj
 have h3 : j < (Lib.bytesCells w 5 s).size := by
  simp only [World.cell?, h1] at h2
  by_cases h : j < (Lib.bytesCells w 5 s).size
  ·exact h
  ·simp [Array.getElem?_eq_none (show (Lib.bytesCells w 5 s).size ≤ j by omega)] at h2
 simp [World.frozen?, h1]
 omega
def dblT (l : List UInt8) (o : Nat) : List UInt8 := if crr l o = 0 then dbl l o else 49 :: dbl l o
theorem twice_t (l : List UInt8) (hl : l.length ≤ 1000) (hd : digs l) (o : Nat) (ho : o ≤ 1) (w : World) : Calls Tryz.prog 110 #[.string ⟨l.toArray⟩, .int .u64 (o : Int)] w fun e w' => e = .returned (.string ⟨(dblT l o).toArray⟩) ∧ Below w.heap.size w w' := by
 obtain ⟨t, ht⟩ : ∃ t : ByteArray, t = ⟨l.toArray⟩ := ⟨_, rfl⟩
 have hts : t.size = l.length := by rw [ht, bs_sizeN]
 have htd : t.data.toList = l := by rw [ht]
 have hcv := Lib.run_convert_string_bytes (P := Tryz.prog) w 9 118 5 t (u := .string) Tryz.underlying9 Tryz.underlying118 Tryz.underlying5
 have hB : DblAt l o w.heap.size l.length (Lib.bytesWorld w 5 t) := fun k hk => by
  refine ⟨?_, bytesWorld_frozen w t k (by omega)⟩
  rw [Lib.bytesWorld_cell w 5 t k (by omega), htd, if_pos hk]
 have hb0 : Below w.heap.size w (Lib.bytesWorld w 5 t) := Lib.bytesWorld_below w _ t
 rw [hts] at hcv
 generalize Lib.bytesWorld w 5 t = W1 at *
 rw [← ht]
 clear ht hts htd
 generalize grownCap w l.length 0 5 = cap at *
 have HB0 := Lib.hid (And.intro hB hb0)
 have HD := Lib.hid hd
 clear hB hb0 hd
 have how : (o : Int) ≤ 1 := by omega
 go_enter Tryz.func110, Tryz.ntmps110
 go_wp2_with fail
 go_loopw [6, 7] (fun c i wr => ∃ (j : Nat), j ≤ l.length ∧ i = .int .i64 ((j : Int) - 1) ∧ c = .int .u8 ((crr (l.drop j) o : Nat) : Int) ∧ DblAt l o w.heap.size j wr ∧ Below w.heap.size w wr) (fun _ i _ => (intOf i + 1).toNat)
 case atStart =>
  obtain ⟨hB, hb0⟩ := HB0.out
  exact ⟨l.length, Nat.le_refl _, rfl, by rw [List.drop_length]; rfl, hB, hb0⟩
 case round =>
  clear hcv HB0
  obtain ⟨j, hj, rfl, rfl, hC, hb⟩ := hrel
  have HC := Lib.hid hC
  have HB := Lib.hid hb
  clear hC hb
  cases j with
  | zero =>
   rw [List.drop_zero, show (((0 : Nat) : Int) - 1) = -1 by rfl]
   have hcb := run_convert_bytes_back (P := Tryz.prog) wr 118 9 5 ⟨w.heap.size, 0, none⟩ cap (dbl l o) Tryz.underlying118 Tryz.underlying5 Tryz.underlying9 (fun k hk => by
    have hk' : k < l.length := by rwa [dbl_len] at hk
    rw [Addr.add_mid, Nat.zero_add, (HC.out k hk').1, if_neg (Nat.not_lt_zero k), List.getD_eq_getElem?_getD, List.getElem?_eq_getElem hk, Option.getD_some])
   have hdl := dbl_len l o
   rw [hdl] at hcb
   have hk := crr_le l o HD.out ho
   have HT : Hid (dblT l o = if crr l o = 0 then dbl l o else 49 :: dbl l o) := Lib.hid rfl
   generalize dbl l o = m at *
   generalize crr l o = K at *
   clear HC HD
   rcases (show K = 0 ∨ K = 1 by omega) with rfl | rfl
   ·have HR := Lib.hid (HT.out.trans (if_pos rfl))
    clear HT
    go_wp2
    go_ret
    exact ⟨by rw [HR.out]; rfl, HB.out⟩
   ·have HR := Lib.hid (HT.out.trans (if_neg (by decide)))
    clear HT
    have hsz := bs_sizeN m
    have hle : ¬ 9223372036854775807 < 1 + m.length := by omega
    go_wp2
    go_ret
    exact ⟨by rw [HR.out]; exact congrArg (fun x => Ending.returned (Value.string x)) (ba_add [49] m), HB.out⟩
  | succ m =>
   rw [show ((m + 1 : Nat) : Int) - 1 = (m : Int) by omega]
   have hlt : m < l.length := by omega
   have hlt' : (m : Int) < (l.length : Int) := by omega
   obtain ⟨c0, f0⟩ := HC.out m hlt
   rw [if_pos (Nat.lt_succ_self m), List.getD_eq_getElem?_getD, List.getElem?_eq_getElem hlt, Option.getD_some] at c0
   have hs := HC.out.step hlt
   have hcs := crr_step l o m hlt
   have hk := crr_le (l.drop (m + 1)) o (digs_drop HD.out _) ho
   obtain ⟨d1, d2⟩ := HD.out l[m] (List.getElem_mem hlt)
   generalize l[m] = c at *
   generalize crr (l.drop (m + 1)) o = K at *
   have HS := Lib.hid hs
   have HK := Lib.hid hcs
   clear hs hcs
   have k1 : (K : Int) ≤ 1 := by omega
   have e1 : (48 : Int) ≤ (c.toNat : Int) := by omega
   have e2 : (c.toNat : Int) ≤ 57 := by omega
   clear HC
   go_wp2
   refine ⟨⟨m, by omega, rfl, ?_, HS.out _ ?_, HB.out.setCell (Nat.le_refl _) _⟩, by first | (simp [intOf]; done) | (simp [intOf]; omega)⟩
   ·rw [HK.out]; congr 1; omega
   ·rw [dg_toNat]; omega
end Go.Proofs.YtboinifeemghaaaGreatDoor
namespace Go.Proofs.YtboinifeemghaaaGreatDoor
theorem valA_pow : ∀ (l : List UInt8) (a : Nat), valA a l = a * 10 ^ l.length + valT l
 | [], a => by simp [valA, valT]
 | c :: r, a => by
  show valA (10 * a + (c.toNat - 48)) r = a * 10 ^ (r.length + 1) + valA (10 * 0 + (c.toNat - 48)) r
  rw [valA_pow r, valA_pow r (10 * 0 + (c.toNat - 48)), Nat.pow_succ, Nat.add_mul, Nat.add_mul, Nat.mul_comm 10 a, Nat.mul_assoc, Nat.mul_comm 10 (10 ^ r.length)]
  omega
theorem valT_cons (c : UInt8) (r : List UInt8) : valT (c :: r) = (c.toNat - 48) * 10 ^ r.length + valT r := by
 show valA (10 * 0 + (c.toNat - 48)) r = _
 rw [valA_pow, Nat.mul_zero, Nat.zero_add]
theorem dbl_val : ∀ (l : List UInt8) (o : Nat), crr l o * 10 ^ l.length + valT (dbl l o) = 2 * valT l + o
 | [], o => by simp [crr, dbl, valT, valA]
 | c :: r, o => by
  have ih := dbl_val r o
  rw [crr, dbl, valT_cons, valT_cons, dg_toNat, dbl_len, List.length_cons, Nat.pow_succ]
  generalize 10 ^ r.length = P at *
  generalize c.toNat - 48 = d at *
  generalize crr r o = K at *
  have e : 2 * d + K = 10 * ((2 * d + K) / 10) + (2 * d + K) % 10 := by omega
  have e2 : (2 * d + K) * P = 10 * ((2 * d + K) / 10) * P + (2 * d + K) % 10 * P := by conv => lhs; rw [e, Nat.add_mul]
  rw [Nat.add_mul] at e2
  rw [show 48 + (2 * d + K) % 10 - 48 = (2 * d + K) % 10 by omega]
  have e3 : (2 * d + K) / 10 * (P * 10) = 10 * ((2 * d + K) / 10) * P := by rw [Nat.mul_comm P 10, ← Nat.mul_assoc, Nat.mul_comm _ 10]
  have e4 : 2 * (d * P) = 2 * d * P := by rw [Nat.mul_assoc]
  omega
theorem dbl_digs : ∀ (l : List UInt8) (o : Nat), digs (dbl l o)
 | [], _ => fun c h => by simp [dbl] at h
 | c :: r, o => fun x h => by
  rw [dbl, List.mem_cons] at h
  rcases h with rfl | h
  ·rw [dg_toNat]; omega
  ·exact dbl_digs r o x h
theorem dblT_val (l : List UInt8) (o : Nat) (hd : digs l) (ho : o ≤ 1) : valT (dblT l o) = 2 * valT l + o := by
 have h1 := dbl_val l o
 have h2 := crr_le l o hd ho
 unfold dblT
 split
 ·rename_i h; rw [h, Nat.zero_mul] at h1; omega
 ·rename_i h
  have h3 : crr l o = 1 := by omega
  rw [h3] at h1
  rw [valT_cons, dbl_len]
  exact h1
theorem dblT_digs (l : List UInt8) (o : Nat) : digs (dblT l o) := by
 unfold dblT
 split
 ·exact dbl_digs l o
 ·intro c h
  rw [List.mem_cons] at h
  rcases h with rfl | h
  ·decide
  ·exact dbl_digs l o c h
theorem digs_all {l : List UInt8} (h : digs l) : l.all dgB = true := by
 rw [List.all_eq_true]
 intro x hx
 have := h x hx
 simp [dgB, this]
theorem dblT_tx (n o : Nat) (ho : o ≤ 1) : txB (dblT (decN n) o) = true := by
 have hd := dec_digs n
 by_cases h0 : n = 0
 ·subst h0
  rw [dec_zero]
  rcases (show o = 0 ∨ o = 1 by omega) with rfl | rfl <;> decide
 ·have hall := digs_all (dblT_digs (decN n) o)
  unfold txB
  rw [hall]
  have hh := dec_head n h0
  have hne := decN_ne n
  unfold dblT
  split
  ·rename_i hc
   cases hq : decN n with
   | nil => exact absurd hq hne
   | cons c r =>
    rw [hq] at hh hc hd
    have hcd := hd c (by simp)
    have hc0 : c.toNat ≠ 48 := fun e => hh (by simp; exact UInt8.toNat_inj.1 e)
    rw [crr] at hc
    rw [dbl]
    have hx : dg (2 * (c.toNat - 48) + crr r o) ≠ 48 := fun e => by
     have := congrArg UInt8.toNat e
     rw [dg_toNat] at this
     have h48 : (48 : UInt8).toNat = 48 := rfl
     omega
    simp [hx]
  ·simp
theorem dblT_dec (n o : Nat) (ho : o ≤ 1) : dblT (decN n) o = decN (2 * n + o) := by
 have h1 := dec_val (dblT_tx n o ho)
 rw [dblT_val _ o (dec_digs n) ho, valT_dec] at h1
 exact h1.symm
end Go.Proofs.YtboinifeemghaaaGreatDoor
namespace Go.Proofs.YtboinifeemghaaaGreatDoor
open Go.RowKit
theorem bit_nat (n k : Nat) : bitF (n : Int) k = ((n / 2 ^ (127 - k) % 2 : Nat) : Int) := by
 unfold bitF
 rw [Int.natCast_emod, Int.natCast_ediv, Int.natCast_pow]; rfl
theorem half_step (n k : Nat) (h : k < 128) : 2 * (n / 2 ^ (128 - k)) + n / 2 ^ (127 - k) % 2 = n / 2 ^ (128 - (k + 1)) := by
 rw [show 128 - k = (127 - k) + 1 by omega, Nat.pow_succ, ← Nat.div_div_eq_div_mul, show 128 - (k + 1) = 127 - k by omega]; omega
theorem dec_len_MM (n : Nat) (hn : (n : Int) < MM) (d : Nat) : (decN (n / d)).length ≤ 39 := dec_len_39 _ (Nat.lt_of_le_of_lt (Nat.div_le_self n d) (lt39 hn))
theorem refPrint_t (n : Nat) (hn : (n : Int) < MM) (w : World) : Calls Tryz.prog 72 #[.agg #[.int .u64 (hi n), .int .u64 (lo n)]] w fun e w' => e = .returned (.string ⟨(decN n).toArray⟩) ∧ Below w.heap.size w w' := by
 have hbi := fun w => bits_h (n : Int) w
 rw [Int.emod_eq_of_lt (by omega) hn] at hbi
 have hinf := bitsA_info (n : Int)
 have hone := bitsA_one (n : Int)
 have HB0 : Hid (Below w.heap.size w (w.alloc (.cells #[.int .u64 (hi n), .int .u64 (lo n)] 75))) := Lib.hid (by repeat (first | exact Below.refl _ _ | assumption | (with_reducible refine Below.drew ?_) | ((with_reducible first | refine Below.setCell ?_ ?h _ | refine Below.alloc ?_ ?h _ | refine Below.trans ?_ (hb3.mono ?h) | refine Below.trans ?_ (hb2.mono ?h) | refine Below.trans ?_ (hb.mono ?h)); case h => first | omega | (simp; done) | (simp; omega))))
 have HO := Lib.hid (And.intro hinf hone)
 clear hinf hone
 go_enter Tryz.func72, Tryz.ntmps72
 go_wp2_with fail
 have hb := HB0.out
 clear HB0
 generalize w.alloc (.cells #[.int .u64 (hi n), .int .u64 (lo n)] 75) = w0 at *
 refine (hbi _).mono ?_
 rintro e w1 ⟨rfl, hb2⟩
 replace hb := below_step hb hb2
 clear hb2 hbi
 obtain ⟨hinf, hone⟩ := HO.out
 have Rz := Row.new w1 z128 144
 have hth := Rz.there (bitsA (n : Int)).size (by rw [bitsA_size, z128_size]; exact Nat.le_refl _)
 have R1 := Rz.setAll (bitsA (n : Int)) (by rw [bitsA_size, z128_size])
 have hb1 : Below w.heap.size w ((w1.alloc (.cells z128 144)).setCells w1.heap.size 0 (bitsA (n : Int)).toList) := below_setCells hb.size _ _ _ (below_step hb ((Below.refl _ _).alloc (Nat.le_refl _) _))
 have HR := Lib.hid (And.intro R1 hb1)
 clear R1 hb1 Rz hb HO
 go_wp2_with (first
  | (with_reducible refine wpList_alloc128 ?_)
  | (refine wpList_store_mid rfl 144 (.tmp 3) (.tmp 7) rfl w1.heap.size 0 (bitsA (n : Int)) rfl rfl hth hinf hone ?_)
  | fail)
 obtain ⟨R1, hb⟩ := HR.out
 clear HR hth hinf hone
 generalize (w1.alloc (.cells z128 144)).setCells w1.heap.size 0 (bitsA (n : Int)).toList = w2 at *
 generalize w1.heap.size = g at *
 have HA := Lib.hid (And.intro R1 hb)
 clear R1 hb
 go_loopw [4, 5] (fun s i wr => ∃ k : Nat, k ≤ 128 ∧ i = .int .i64 (k : Nat) ∧ s = .string ⟨(decN (n / 2 ^ (128 - k))).toArray⟩ ∧ Row wr g (bitsA (n : Int)) 144 ∧ Below w.heap.size w wr) (fun _ i _ => 128 - (intOf i).toNat)
 case atStart =>
  obtain ⟨R1, hb⟩ := HA.out
  refine ⟨0, by omega, rfl, ?_, R1, hb⟩
  rw [Nat.div_eq_of_lt (by have h : (MM : Int) = 340282366920938463463374607431768211456 := rfl; have h2 : 2 ^ (128 - 0) = 340282366920938463463374607431768211456 := rfl; omega), dec_zero]
 case round =>
  clear HA
  obtain ⟨k, hk, rfl, rfl, R1, hb⟩ := hrel
  by_cases hlt : k < 128
  ·have hkb : (k : Int) < 128 := by omega
   have cx := (R1.cell k).trans (bitsA_get _ k hlt)
   rw [bit_nat] at cx
   have hst := half_step n k hlt
   have hbt : n / 2 ^ (127 - k) % 2 ≤ 1 := by omega
   have hlen := dec_len_MM n hn (2 ^ (128 - k))
   have htw := fun w => twice_t (decN (n / 2 ^ (128 - k))) (by omega) (dec_digs _) (n / 2 ^ (127 - k) % 2) hbt w
   rw [dblT_dec _ _ hbt, hst] at htw
   have HR := Lib.hid (And.intro R1 hb)
   clear R1 hb hst hbt hlen
   generalize n / 2 ^ (127 - k) % 2 = b at *
   go_wp2_with fail
   refine (htw _).mono ?_
   rintro e w3 ⟨rfl, hb3⟩
   obtain ⟨R1, hb⟩ := HR.out
   replace R1 := R1.later hb3
   replace hb := below_step hb hb3
   have HR := Lib.hid (And.intro R1 hb)
   clear R1 hb hb3 htw
   go_wp2
   exact ⟨⟨k + 1, by omega, by go_num, by first | rfl | rw [show 128 - (k + 1) = 127 - k by omega], HR.out.1, HR.out.2⟩, by simp [intOf]; omega⟩
  ·obtain rfl : k = 128 := by omega
   rw [show 128 - 128 = 0 from rfl, Nat.pow_zero, Nat.div_one]
   have HB := Lib.hid hb
   clear R1 hb
   go_wp2
   go_ret
   exact ⟨rfl, HB.out⟩
theorem refIs_t (l : List UInt8) (hl : l.length ≤ 2000000) (w : World) : Calls Tryz.prog 29 #[.string ⟨l.toArray⟩] w fun e w' => e = .returned (.bool (txB l)) ∧ Below w.heap.size w w' := by
 have hsz := bs_sizeN l
 go_enter Tryz.func29, Tryz.ntmps29
 go_wp2_with fail
 go_loopw [3] (fun i wr => ∃ (j : Nat), j ≤ l.length ∧ i = .int .i64 j ∧ Hid (∀ i (hi : i < j) (hl : i < l.length), dgB l[i] = true) ∧ wr = w) (fun i _ => l.length - (intOf i).toNat)
 case atStart => exact ⟨0, by omega, rfl, Lib.hid (fun i hi => by omega), rfl⟩
 case round =>
  obtain ⟨j, hj, rfl, hm, rfl⟩ := hrel
  by_cases hlt : j < l.length
  ·obtain ⟨c, hlj⟩ : ∃ c, l[j] = c := ⟨_, rfl⟩
   have hsp : j < (⟨l.toArray⟩ : ByteArray).size := by rw [hsz]; exact hlt
   have hch : (⟨l.toArray⟩ : ByteArray)[j]'hsp = c := hlj
   have HJ := Lib.hid hlj
   clear hlj
   have hc : c.toNat < 256 := c.toNat_lt
   by_cases h1 : 48 ≤ c.toNat
   ·by_cases h2 : c.toNat ≤ 57
    ·have h1' : ¬ (c.toNat : Int) < 48 := by omega
     have h2' : ¬ (57 : Int) < (c.toNat : Int) := by omega
     have HD := Lib.hid (show dgB c = true by simp [dgB, h1, h2])
     clear h1 h2
     go_wp2
     refine ⟨⟨j + 1, by omega, by go_num, Lib.hid (fun i hi hl => ?_), by first | rfl | trivial⟩, by simp [intOf]; omega⟩
     by_cases hij : i = j
     ·subst hij; rw [HJ.out]; exact HD.out
     ·exact hm.out i (by omega) hl
    ·have h1' : ¬ (c.toNat : Int) < 48 := by omega
     have h2' : (57 : Int) < (c.toNat : Int) := by omega
     have HB := Lib.hid (txB_bad hlt (by rw [HJ.out]; simp [dgB, h2]))
     clear h1 h2
     go_wp2
     go_ret
     exact ⟨by rw [HB.out]; rfl, Below.refl _ _⟩
   ·have h1' : (c.toNat : Int) < 48 := by omega
    have HB := Lib.hid (txB_bad hlt (by rw [HJ.out]; simp [dgB, h1]))
    clear h1
    go_wp2
    go_ret
    exact ⟨by rw [HB.out]; rfl, Below.refl _ _⟩
  ·have HB := Lib.hid (txB_ok (l := l) (fun i hi => hm.out i (by omega) hi))
   have hlt' : ¬ (j : Int) < (l.length : Int) := by omega
   have HM := hm
   clear hm
   by_cases e2 : l = []
   ·have HC := Lib.hid (show txB l = false by rw [HB.out]; simp [e2])
    have h0 : (l.length : Int) = 0 := by rw [e2]; rfl
    clear HB e2 HM
    go_wp2
    go_ret
    exact ⟨by rw [HC.out]; rfl, Below.refl _ _⟩
   ·have h0 : 0 < l.length := List.length_pos_iff.2 e2
    obtain ⟨c, hlj⟩ : ∃ c, l[0] = c := ⟨_, rfl⟩
    have hhd : l.head? = some c := by rw [List.head?_eq_getElem?, List.getElem?_eq_getElem h0, hlj]
    have hdg : dgB c = true := by rw [← hlj]; exact HM.out 0 (by omega) h0
    have hcd : 48 ≤ c.toNat ∧ c.toNat ≤ 57 := by simpa [dgB] using hdg
    clear HM hdg
    by_cases e1 : l.length = 1
    ·have hl1 : l = [c] := by
      obtain ⟨x, hx⟩ := List.length_eq_one_iff.1 e1
      subst hx; simp at hlj; rw [hlj]
     have HC := Lib.hid (show txB l = true by
      rw [HB.out, hl1]
      by_cases e : c = 48
      ·subst e; rfl
      ·simp [e])
     have e1' : (l.length : Int) = 1 := by omega
     clear HB hl1 hhd e2 e1 hlj
     go_wp2
     go_ret
     exact ⟨by rw [HC.out]; rfl, Below.refl _ _⟩
    ·have hsp : 0 < (⟨l.toArray⟩ : ByteArray).size := by rw [hsz]; exact h0
     have hch : (⟨l.toArray⟩ : ByteArray)[0]'hsp = c := hlj
     have hn1 : ¬ (l.length : Int) = 1 := by omega
     have hn2 : (1 : Int) < (l.length : Int) := by omega
     have hne : ¬ l = [48] := fun e => e1 (by rw [e]; rfl)
     by_cases e3 : c = 48
     ·have HC := Lib.hid (show txB l = false by rw [HB.out, hhd]; simp [hne, e3])
      have e4 : ¬ (48 : Int) < (c.toNat : Int) := by rw [e3]; decide
      clear HB e3 hlj hhd e1 e2 hne
      go_wp2
      go_ret
      exact ⟨by rw [HC.out]; first | rfl | exact congrArg (fun b => Ending.returned (Value.bool b)) (show ((l.length : Int) == 1) = false by simp; omega), Below.refl _ _⟩
     ·have HC := Lib.hid (show txB l = true by rw [HB.out, hhd]; simp [e2, e3])
      have e4 : (48 : Int) < (c.toNat : Int) := by
       have : ¬ c.toNat = 48 := fun h => e3 (UInt8.toNat_inj.1 h)
       omega
      clear HB e3 hlj hhd e1 e2 hne
      go_wp2
      go_ret
      exact ⟨by rw [HC.out]; rfl, Below.refl _ _⟩
def leT : List UInt8 → List UInt8 → Bool
 | [], [] => true
 | c :: r, d :: s => if c = d then leT r s else decide (c.toNat < d.toNat)
 | _, _ => false
def valsI (ls : List Int) : List Value := ls.map fun x => Value.int .i64 x
theorem valsI_length (ls : List Int) : (valsI ls).length = ls.length := by simp [valsI]
theorem valsI_one (ls : List Int) : ∀ x ∈ valsI ls, x.oneCell' = true := by
 intro x hx
 unfold valsI at hx
 obtain ⟨a, _, rfl⟩ := List.mem_map.1 hx
 rfl
def IS (w : World) (v : Value) (ls : List Int) : Prop := ∃ p c, v = .slice p ls.length c ∧ ls.length ≤ c ∧ (0 < ls.length → ∃ g o, p = some ⟨g, o, none⟩ ∧ g < w.heap.size ∧ ∀ (j : Nat) x, ls[j]? = some x → w.cell? ⟨g, o + j, none⟩ = some (.int .i64 x))
theorem IS.nil (w : World) : IS w (.slice none 0 0) [] := ⟨none, 0, rfl, Nat.le_refl _, fun h => by cases h⟩
def OwnI (base : Nat) (w : World) (v : Value) (ls : List Int) : Prop := w.ownsRow base 3 1 v ls.length (valsI ls)
theorem OwnI.later {base : Nat} {w w' : World} {v : Value} {l : List Int} (h : OwnI base w v l) (hb : Below w.heap.size w w') : OwnI base w' v l := by
 obtain ⟨hl, h⟩ := h
 refine ⟨hl, ?_⟩
 rcases h with h | ⟨g, cap, cur, hv, hbs, hg, h1⟩
 ·exact .inl h
 ·exact .inr ⟨g, cap, cur, hv, hbs, (Row.later (t := 3) hg hb), h1⟩
theorem OwnI.block {base : Nat} {w : World} {v : Value} {l : List Int} (h : OwnI base w v l) (g : Nat) (hg : v.ownBlock = some g) : base ≤ g ∧ g < w.heap.size := by
 rcases h.2 with ⟨rfl, _⟩ | ⟨g', cap, cur, rfl, hbs, hr, _⟩
 ·cases hg
 ·have : g' = g := by simpa [Value.ownBlock] using hg
  subst this
  exact ⟨hbs, Row.lt (t := 3) hr⟩
theorem OwnI.made {base : Nat} {w : World} {g : Nat} {x : Int} (R : Row w g #[.int .i64 x] 3) (hg : base ≤ g) : OwnI base w (.slice (some ⟨g, 0, none⟩) 1 1) [x] :=
 ⟨rfl, .inr ⟨g, 1, #[.int .i64 x], rfl, hg, R, Nat.le_refl _, by unfold maxLen; decide, rfl, rfl⟩⟩
theorem OwnI.read {base : Nat} {w : World} {v : Value} {l : List Int} (h : OwnI base w v l) : IS w v l := by
 obtain ⟨hl, h⟩ := h
 rcases h with ⟨rfl, h0⟩ | ⟨g, cap, cur, rfl, hb, hg, h1, h2, h3, h4⟩
 ·exact ⟨none, 0, by rw [h0], by omega, fun h => by omega⟩
 ·refine ⟨_, cap, rfl, by omega, fun _ => ⟨g, 0, rfl, Row.lt (t := 3) hg, fun j x hx => ?_⟩⟩
  rw [Nat.zero_add, cell_of_row w g j cur _ _ hg, ← Array.getElem?_toList]
  have hj : j < l.length := by rw [List.getElem?_eq_some_iff] at hx; exact hx.1
  have : (valsI l)[j]? = some (.int .i64 x) := by unfold valsI; rw [List.getElem?_map, hx]; rfl
  rw [← h4, List.getElem?_take, if_pos (by omega)] at this
  exact this
theorem infoI : ∃ i, Tryz.prog.info? 3 = some i ∧ i.zero = some (.int .i64 0) ∧ i.size = 1 ∧ i.bytes = 8 := by
 have h1 : (Tryz.prog.info? 3).bind (·.zero) = some (.int .i64 0) := by kernel_rfl
 have h2 : (Tryz.prog.info? 3).map (·.size) = some 1 := by kernel_rfl
 have h3 : (Tryz.prog.info? 3).map (·.bytes) = some 8 := by kernel_rfl
 cases hq : Tryz.prog.info? 3 with
 | none => rw [hq] at h2; cases h2
 | some i =>
  rw [hq] at h1 h2 h3
  exact ⟨i, rfl, by simpa using h1, by simpa using h2, by simpa using h3⟩
theorem appI_one {base : Nat} {w0 w : World} {v : Value} {l : List Int} (x : Int) (ho : OwnI base w v l) (hB : Below base w0 w) (hl : l.length ≤ 2147483600) (hbase : base ≤ w.heap.size) :
  ∃ v' w', (Builtin.append_ #[62, 62] 62 #[v, .slice (some ⟨w.heap.size, 0, none⟩) 1 1]).run Tryz.prog (w.alloc (.cells #[.int .i64 x] 3)) = .ok v' w' ∧ OwnI base w' v' (l ++ [x]) ∧ Below base w0 w' := by
 have R1 := Row.new w #[.int .i64 x] 3
 have hbn : Below w.heap.size w (w.alloc (.cells #[.int .i64 x] 3)) := (Below.refl _ _).alloc (Nat.le_refl _) _
 have ho2 := ho.later hbn
 obtain ⟨i, i1, i2, i3, i4⟩ := infoI
 have hs : ∀ j u, (valsI [x])[j]? = some u → (w.alloc (.cells #[.int .i64 x] 3)).cell? ((⟨w.heap.size, 0, none⟩ : Addr).add j) = some u := by
  intro j u hu
  rw [Addr.add_mid, Nat.zero_add, R1.cell j]
  rcases j with _ | j
  ·exact hu
  ·simp [valsI] at hu
 obtain ⟨v', w2, hr, k1, k2, _, k4⟩ := run_append_own_at (P := Tryz.prog) (w.alloc (.cells #[.int .i64 x] 3)) base 62 62 3 i (.int .i64 0) 1 8 Tryz.underlying62 i1 i2 i3 i4 rfl (by decide) v l.length (valsI l) ho2 ⟨w.heap.size, 0, none⟩ 1 1 (valsI [x]) (by rw [valsI_length, Nat.mul_one]; rfl) hs (valsI_one [x]) (by unfold maxLen; omega) (by omega) (Nat.le_trans hbase hbn.size)
 refine ⟨v', w2, hr, ?_, (hB.trans (hbn.mono hbase)).grown k2 (Nat.le_trans hbase hbn.size) (fun k hk => (ho2.block _ hk).1)⟩
 have hbm : valsI (l ++ [x]) = valsI l ++ valsI [x] := by unfold valsI; rw [List.map_append]
 unfold OwnI
 rw [List.length_append, hbm]
 exact k1
def lensT (d : Dm) (k : Nat) : List Int := (List.range k).map fun i : Nat => lenD d i
def lensL (d : Dm) : List Int := lensT d (cntD d)
theorem lensT_len (d : Dm) (k : Nat) : (lensT d k).length = k := by unfold lensT; simp
theorem lensT_succ (d : Dm) (k : Nat) : lensT d (k + 1) = lensT d k ++ [lenD d k] := by unfold lensT; rw [List.range_succ, List.map_append]; rfl
theorem lensT_get {d : Dm} {j k : Nat} (h : j < k) : (lensT d k)[j]? = some (lenD d j) := by unfold lensT; rw [List.getElem?_map, List.getElem?_range h]; rfl
theorem lenD_next {d : Dm} (h : rightD d = true) {l : Int} (h0 : 0 ≤ l) (h1 : l < depthD d) : lenD d (l + 1) = max (lenD d l - d.step) 0 := by
 rw [lenD_yes h h0 (by omega), lenD_yes h (by omega) (by omega)]
 have h4 := (lenD_step h h0 h1).2.2
 rw [lenD_yes h h0 (by omega)] at h4
 have e2 : (l + 1) * d.step = l * d.step + d.step := by rw [Int.add_mul, Int.one_mul]
 omega
def LensPost (d : Dm) (w : World) (e : Ending) (w' : World) : Prop := ∃ v, e = .returned v ∧ IS w' v (lensL d) ∧ Below w.heap.size w w'
theorem lensPost_bad {d : Dm} (hr : rightD d = false) {w w' : World} (hb : Below w.heap.size w w') : LensPost d w (.returned (.slice none 0 0)) w' :=
 ⟨_, rfl, by unfold lensL; rw [cntD_bad hr]; exact IS.nil _, hb⟩
theorem lensPost_ok {d : Dm} {w w' : World} {v : Value} (hs : IS w' v (lensL d)) (hb : Below w.heap.size w w') : LensPost d w (.returned v) w' := ⟨v, rfl, hs, hb⟩
theorem rlens_bad (d : Dm) (hr : rightD d = false) (w : World) : Calls Tryz.prog 31 #[dv d] w (LensPost d w) := by
 have HW := rwidth_t d.kind
 have HX := Lib.hid (fun (w' : World) (hb : Below w.heap.size w w') => lensPost_bad hr hb)
 have hc : wid d.kind = 0 ∨ ¬ (d.side = 1 ∨ d.side = 2) ∨ d.step < 1 ∨ wid d.kind < d.step := by
  have h := rightD_iff d
  rw [hr] at h
  have h2 : ¬ ((d.side = 1 ∨ d.side = 2) ∧ 1 ≤ d.step ∧ d.step ≤ wid d.kind) := fun e => by have := h.2 e; cases this
  omega
 clear hr
 generalize LensPost d w = PP at *
 obtain ⟨kd, sd, st⟩ := d
 dsimp only at *
 generalize wid kd = wd at *
 unfold dv
 dsimp only
 obtain ⟨RR0, hb0⟩ := one_row w #[.int .i64 kd, .int .i64 sd, .int .i64 st] 23
 have c0 := (RR0.cell 0).trans (show _ = some (Value.int .i64 kd) from rfl)
 have c1 := (RR0.cell 1).trans (show _ = some (Value.int .i64 sd) from rfl)
 have c2 := (RR0.cell 2).trans (show _ = some (Value.int .i64 st) from rfl)
 clear RR0
 by_cases h0 : wd = 0
 ·subst h0
  go_enter Tryz.func31, Tryz.ntmps31
  go_wp2_with fail
  refine (HW _).mono ?_
  rintro e w1 ⟨rfl, hb⟩
  replace c0 := cl hb c0
  replace c1 := cl hb c1
  replace c2 := cl hb c2
  replace hb0 := below_step hb0 hb
  clear hb
  have lc := World.block_lt_of_cell? _ _ c0
  dsimp only at lc
  replace HX := Lib.hid (HX.out _ hb0)
  go_wp2
  exact HX.out
 have h0' : (wd == 0) = false := by simpa using h0
 by_cases h1 : ¬ (sd = 1 ∨ sd = 2)
 ·have h1' : (sd == 1) = false := by simp; omega
  have h2' : (sd == 2) = false := by simp; omega
  have n1 : ¬ sd = 1 := by omega
  have n2 : ¬ sd = 2 := by omega
  clear hc h1
  go_enter Tryz.func31, Tryz.ntmps31
  go_wp2_with fail
  refine (HW _).mono ?_
  rintro e w2 ⟨rfl, hb⟩
  replace c0 := cl hb c0
  replace c1 := cl hb c1
  replace c2 := cl hb c2
  replace hb0 := below_step hb0 hb
  clear hb
  have lc := World.block_lt_of_cell? _ _ c0
  dsimp only at lc
  replace HX := Lib.hid (HX.out _ hb0)
  go_wp2
  exact HX.out
 have h1' : sd = 1 ∨ sd = 2 := by omega
 clear h1
 by_cases h2 : st < 1
 ·clear hc
  rcases h1' with rfl | rfl
  all_goals
   go_enter Tryz.func31, Tryz.ntmps31
   go_wp2_with fail
   refine (HW _).mono ?_
   rintro e w3 ⟨rfl, hb⟩
   replace c0 := cl hb c0
   replace c1 := cl hb c1
   replace c2 := cl hb c2
   replace hb0 := below_step hb0 hb
   clear hb
   have lc := World.block_lt_of_cell? _ _ c0
   dsimp only at lc
   replace HX := Lib.hid (HX.out _ hb0)
   go_wp2
   exact HX.out
 have h3 : wd < st := by omega
 clear hc
 rcases h1' with rfl | rfl
 all_goals
  go_enter Tryz.func31, Tryz.ntmps31
  go_wp2_with fail
  refine (HW _).mono ?_
  rintro e w4 ⟨rfl, hb⟩
  replace c0 := cl hb c0
  replace c1 := cl hb c1
  replace c2 := cl hb c2
  replace hb0 := below_step hb0 hb
  clear hb
  have lc := World.block_lt_of_cell? _ _ c0
  dsimp only at lc
  replace HX := Lib.hid (HX.out _ hb0)
  go_wp2
  exact HX.out
theorem rlens_ok (d : Dm) (hr : rightD d = true) (w : World) : Calls Tryz.prog 31 #[dv d] w (LensPost d w) := by
 have HW := rwidth_t d.kind
 obtain ⟨g1, g2, _, _⟩ := depth_range hr
 obtain ⟨sd0, s1, s2⟩ := (rightD_iff d).1 hr
 have hw := wid_range d.kind
 have hz := lenD_zero hr
 have he := lenD_end hr
 have HN := Lib.hid (fun (l : Int) (h0 : 0 ≤ l) (h1 : l < depthD d) => lenD_next hr h0 h1)
 have HP := Lib.hid (fun (l : Int) (h0 : 0 ≤ l) (h1 : l < depthD d) => (lenD_step hr h0 h1).2.2)
 have HR := Lib.hid (fun (l : Int) => lenD_range d l)
 have HT0 := lensT_succ d 0
 have HT := Lib.hid (fun (k : Nat) => lensT_succ d k)
 have HG := Lib.hid (fun (j k : Nat) (h : j < k) => lensT_get (d := d) h)
 have HLN := Lib.hid (fun k => lensT_len d k)
 have hc := cntD_ok hr
 have HX := Lib.hid (fun (v : Value) (w' : World) (hs : IS w' v (lensT d (cntD d))) (hb : Below w.heap.size w w') => (lensPost_ok hs hb : LensPost d w (.returned v) w'))
 generalize LensPost d w = PP at *
 generalize lensT d = T at *
 generalize cntD d = N at *
 have hT1 : T 1 = [wid d.kind] := by rw [HT0]; show T 0 ++ _ = _; rw [show ((0 : Nat) : Int) = 0 from rfl, hz, List.eq_nil_of_length_eq_zero (HLN.out 0)]; rfl
 obtain ⟨Ld, hLd⟩ : ∃ Ld : Nat → Int, ∀ k : Nat, Ld k = lenD d k := ⟨_, fun _ => rfl⟩
 generalize hq : depthD d = q at *
 obtain ⟨Q, rfl⟩ := Int.eq_ofNat_of_zero_le (show 0 ≤ q by omega)
 have hN : N = Q + 1 := by omega
 subst hN
 have HNx := Lib.hid (fun (k : Nat) (h : k < Q) => (by rw [hLd, hLd, show ((k + 1 : Nat) : Int) = (k : Int) + 1 by omega]; exact HN.out k (by omega) (by omega) : Ld (k + 1) = max (Ld k - d.step) 0))
 have HPx := Lib.hid (fun (k : Nat) (h : k < Q) => (by rw [hLd]; exact HP.out k (by omega) (by omega) : 0 < Ld k))
 have HRx := Lib.hid (fun (k : Nat) => (by rw [hLd]; exact HR.out k : -1 ≤ Ld k ∧ Ld k ≤ 128))
 have HEx : Ld Q = 0 := by rw [hLd]; exact he
 have HTx := Lib.hid (fun (k : Nat) => (by rw [hLd]; exact HT.out k : T (k + 1) = T k ++ [Ld k]))
 have HGx := Lib.hid (fun (j k : Nat) (h : j < k) => (by rw [hLd]; exact HG.out j k h : (T k)[j]? = some (Ld j)))
 replace HEx := Lib.hid HEx
 replace hT1 := Lib.hid hT1
 clear HN HP HR HT HT0 HG hLd he hz hc hq hr
 obtain ⟨kd, sd, st⟩ := d
 dsimp only at *
 generalize wid kd = wd at *
 have t0 : (wd == 0) = false := by simp; omega
 have t1 : ¬ st < 1 := by omega
 have t2 : ¬ wd < st := by omega
 unfold dv
 dsimp only
 obtain ⟨RR0, hb0⟩ := one_row w #[.int .i64 kd, .int .i64 sd, .int .i64 st] 23
 have c0 := (RR0.cell 0).trans (show _ = some (Value.int .i64 kd) from rfl)
 have c1 := (RR0.cell 1).trans (show _ = some (Value.int .i64 sd) from rfl)
 have c2 := (RR0.cell 2).trans (show _ = some (Value.int .i64 st) from rfl)
 clear RR0
 have hsd : ((sd == 1) = true ∧ sd = 1) ∨ ((sd == 1) = false ∧ sd = 2) := by
  rcases sd0 with e | e
  ·left; simp [e]
  ·right; simp [e]
 clear sd0
 rcases hsd with ⟨_, rfl⟩ | ⟨_, rfl⟩
 ·skip
  go_enter Tryz.func31, Tryz.ntmps31
  go_wp2_with fail
  refine (HW _).mono ?_
  rintro e w1 ⟨rfl, hb⟩
  replace c0 := cl hb c0
  replace c1 := cl hb c1
  replace c2 := cl hb c2
  replace hb0 := below_step hb0 hb
  clear hb
  have lc := World.block_lt_of_cell? _ _ c0
  dsimp only at lc
  go_wp2_with fail
  have RO : Hid (OwnI w1.heap.size (w1.alloc (.cells #[.int .i64 wd] 3)) (.slice (some ⟨w1.heap.size, 0, none⟩) 1 1) (T 1)) := Lib.hid (by rw [hT1.out]; exact OwnI.made (Row.new _ _ _) (Nat.le_refl _))
  have HB1 : Hid (Below w1.heap.size w1 (w1.alloc (.cells #[.int .i64 wd] 3))) := Lib.hid ((Below.refl _ _).alloc (Nat.le_refl _) _)
  have HB0 := Lib.hid hb0
  have hc2 := c2
  clear hb0 c0 c1 c2 hT1 HW
  go_loopw [4] (fun o wr => ∃ (k m : Nat) (po : Option Addr) (co : Nat), o = .slice po m co ∧ k ≤ Q ∧ m = k + 1 ∧ Hid (OwnI w1.heap.size wr (.slice po m co) (T m)) ∧ Hid (Below w1.heap.size w1 wr)) (fun o _ => match o with | .slice _ m _ => Q + 1 - m | _ => 0)
  case atStart => exact ⟨0, 1, _, _, rfl, Nat.zero_le _, rfl, RO, HB1⟩
  case round =>
   clear RO HB1
   obtain ⟨k, m, po, co, rfl, hk, hm, hO, hB⟩ := hrel
   obtain ⟨pp, cc, hpe, hcc, hpp⟩ := hO.out.read
   rw [HLN.out m] at hpe hcc hpp
   cases hpe
   obtain ⟨g, o, rfl, hg, hcell⟩ := hpp (by omega)
   have cA := hcell k (Ld k) (HGx.out k m (by omega))
   have cS := cl hB.out hc2
   have m1 : (m : Int) - 1 = (k : Int) := by omega
   have m2 : IntKind.i64.wrap (k : Int) = (k : Int) := IntWalk.i64_in _ (by omega)
   have hkm : (k : Int) < (m : Int) := by omega
   have hkm2 : k < m := by omega
   have hr := HRx.out k
   have hbs := hB.out.size
   by_cases hlt : k < Q
   ·have hp := HPx.out k hlt
    have hn := HNx.out k hlt
    have HTm : T (m + 1) = T m ++ [Ld (k + 1)] := by rw [HTx.out m]; congr 3
    have hwq : IntKind.i64.wrap (Ld k - st) = Ld k - st := IntWalk.i64_in _ (by omega)
    have hcS0 := cS
    have hB' := Lib.hid hB.out.drew
    have hO' := Lib.hid (hO.out.later ((Below.refl _ _).drew))
    have hm' := Lib.hid hm
    clear hcell hcc hpp HNx HPx HRx HEx HGx HX hm hB hO
    generalize Ld k = lk at *
    go_wp2_with fail
    refine wp_region_held_drew (S := (fun w' => w'.cell? ⟨g, o + k, none⟩ = some (.int .i64 lk) ∧ w'.cell? ⟨w.heap.size, 2, none⟩ = some (.int .i64 st))) (by kernel_rfl) ?hSr1_ (fun hH => ?_)
    case hSr1_ => (first | exact ⟨cA, cS⟩ | exact hH)
    refine tk 0 ⟨some 41, .move (.tmp 4), 62, _, _, _⟩ hH ?_
    refine tk 1 ⟨some 42, .move (.tmp 4), 62, _, _, _⟩ hH ?_
    refine tk 2 ⟨some 43, .call { callee := .builtin .len, args := #[.tmp 42], argTypes := #[62] }, 3, _, _, _⟩ hH ?_
    refine tk 3 ⟨some 44, .binOp .sub 3 (.tmp 43) (.const (.int .i64 1)) 3, 3, _, _, _⟩ hH ?_
    refine tk 4 ⟨some 45, .indexAddr 62 (.tmp 41) (.tmp 44), 0, _, _, _⟩ hH ?_
    refine tk 5 ⟨some 46, .load 3 (.tmp 45), 3, _, _, _⟩ hH ?_
    refine tk 6 ⟨some 47, .fieldAddr 23 (.tmp 1) 2, 0, _, _, _⟩ hH ?_
    refine tk 7 ⟨some 48, .load 3 (.tmp 47), 3, _, _, _⟩ hH ?_
    refine tk 8 ⟨some 49, .binOp .sub 3 (.tmp 46) (.tmp 48) 3, 3, _, _, _⟩ hH ?_
    refine tk 9 ⟨some 5, .assign (.tmp 49), 3, _, _, _⟩ hH ?_
    refine wpAnyH_done (by kernel_rfl) ?_ _
    clear cA cS hH
    have hB2 := hB'.out
    have hO2 := hO'.out
    have hcS := cl ((Below.refl wr.heap.size wr).drew) hcS0
    have hbs2 : w1.heap.size ≤ wr.drew.heap.size := hB2.size
    clear hB' hO' hcS0
    generalize wr.drew = wx at *
    by_cases hneg : lk - st < 0
    ·skip
     have hL : Ld (k + 1) = 0 := by rw [hn]; omega
     have hneg' : decide (lk - st < 0) = true := decide_eq_true hneg
     obtain ⟨v', w3, hrun, hown, hb3⟩ := appI_one (0) hO2 hB2 (by rw [HLN.out]; omega) hbs2
     rw [← hL, ← HTm] at hown
     obtain ⟨pv, cv, rfl, _, _⟩ := hown.read
     rw [HLN.out (m + 1)] at hrun hown
     have HOW := Lib.hid hown
     have HB3 := Lib.hid hb3
     have HRUN := Lib.hid hrun
     have HLN2 := Lib.hid (HLN.out (m + 1))
     clear hrun hown hb3 hO2 hB2 HTm hn hL hcS
     have tok : True := trivial
     go_wp2_with (have _t := tok; at_builtin; refine wpList_appS rfl (.tmp 52) (.tmp 54) 62 rfl rfl rfl HRUN.out ?_; clear tok HRUN)
     exact ⟨⟨k + 1, m + 1, pv, cv, by first | rfl | rw [HLN2.out], by omega, by have := hm'.out; omega, HOW, HB3⟩, by have := hm'.out; first | (simp; omega) | (rw [HLN2.out]; simp; omega)⟩
    ·skip
     have hL : Ld (k + 1) = lk - st := by rw [hn]; omega
     have hneg' : decide (lk - st < 0) = false := decide_eq_false hneg
     obtain ⟨v', w3, hrun, hown, hb3⟩ := appI_one (lk - st) hO2 hB2 (by rw [HLN.out]; omega) hbs2
     rw [← hL, ← HTm] at hown
     obtain ⟨pv, cv, rfl, _, _⟩ := hown.read
     rw [HLN.out (m + 1)] at hrun hown
     have HOW := Lib.hid hown
     have HB3 := Lib.hid hb3
     have HRUN := Lib.hid hrun
     have HLN2 := Lib.hid (HLN.out (m + 1))
     clear hrun hown hb3 hO2 hB2 HTm hn hL hcS
     have tok : True := trivial
     go_wp2_with (have _t := tok; at_builtin; refine wpList_appS rfl (.tmp 52) (.tmp 54) 62 rfl rfl rfl HRUN.out ?_; clear tok HRUN)
     exact ⟨⟨k + 1, m + 1, pv, cv, by first | rfl | rw [HLN2.out], by omega, by have := hm'.out; omega, HOW, HB3⟩, by have := hm'.out; first | (simp; omega) | (rw [HLN2.out]; simp; omega)⟩
   ·have hkQ : k = Q := by omega
    subst hkQ
    have hE := HEx.out
    have HFX := Lib.hid (HX.out _ _ (by rw [← hm]; exact hO.out.read) (below_step HB0.out hB.out))
    rw [hE] at cA
    clear hcell hcc hpp HNx HPx HRx HEx HGx HX hO hB hE cS hr hc2 HTx
    go_wp2
    exact HFX.out
 ·skip
  go_enter Tryz.func31, Tryz.ntmps31
  go_wp2_with fail
  refine (HW _).mono ?_
  rintro e w2 ⟨rfl, hb⟩
  replace c0 := cl hb c0
  replace c1 := cl hb c1
  replace c2 := cl hb c2
  replace hb0 := below_step hb0 hb
  clear hb
  have lc := World.block_lt_of_cell? _ _ c0
  dsimp only at lc
  go_wp2_with fail
  have RO : Hid (OwnI w2.heap.size (w2.alloc (.cells #[.int .i64 wd] 3)) (.slice (some ⟨w2.heap.size, 0, none⟩) 1 1) (T 1)) := Lib.hid (by rw [hT1.out]; exact OwnI.made (Row.new _ _ _) (Nat.le_refl _))
  have HB1 : Hid (Below w2.heap.size w2 (w2.alloc (.cells #[.int .i64 wd] 3))) := Lib.hid ((Below.refl _ _).alloc (Nat.le_refl _) _)
  have HB0 := Lib.hid hb0
  have hc2 := c2
  clear hb0 c0 c1 c2 hT1 HW
  go_loopw [4] (fun o wr => ∃ (k m : Nat) (po : Option Addr) (co : Nat), o = .slice po m co ∧ k ≤ Q ∧ m = k + 1 ∧ Hid (OwnI w2.heap.size wr (.slice po m co) (T m)) ∧ Hid (Below w2.heap.size w2 wr)) (fun o _ => match o with | .slice _ m _ => Q + 1 - m | _ => 0)
  case atStart => exact ⟨0, 1, _, _, rfl, Nat.zero_le _, rfl, RO, HB1⟩
  case round =>
   clear RO HB1
   obtain ⟨k, m, po, co, rfl, hk, hm, hO, hB⟩ := hrel
   obtain ⟨pp, cc, hpe, hcc, hpp⟩ := hO.out.read
   rw [HLN.out m] at hpe hcc hpp
   cases hpe
   obtain ⟨g, o, rfl, hg, hcell⟩ := hpp (by omega)
   have cA := hcell k (Ld k) (HGx.out k m (by omega))
   have cS := cl hB.out hc2
   have m1 : (m : Int) - 1 = (k : Int) := by omega
   have m2 : IntKind.i64.wrap (k : Int) = (k : Int) := IntWalk.i64_in _ (by omega)
   have hkm : (k : Int) < (m : Int) := by omega
   have hkm2 : k < m := by omega
   have hr := HRx.out k
   have hbs := hB.out.size
   by_cases hlt : k < Q
   ·have hp := HPx.out k hlt
    have hn := HNx.out k hlt
    have HTm : T (m + 1) = T m ++ [Ld (k + 1)] := by rw [HTx.out m]; congr 3
    have hwq : IntKind.i64.wrap (Ld k - st) = Ld k - st := IntWalk.i64_in _ (by omega)
    have hcS0 := cS
    have hB' := Lib.hid hB.out.drew
    have hO' := Lib.hid (hO.out.later ((Below.refl _ _).drew))
    have hm' := Lib.hid hm
    clear hcell hcc hpp HNx HPx HRx HEx HGx HX hm hB hO
    generalize Ld k = lk at *
    go_wp2_with fail
    refine wp_region_held_drew (S := (fun w' => w'.cell? ⟨g, o + k, none⟩ = some (.int .i64 lk) ∧ w'.cell? ⟨w.heap.size, 2, none⟩ = some (.int .i64 st))) (by kernel_rfl) ?hSr2_ (fun hH => ?_)
    case hSr2_ => (first | exact ⟨cA, cS⟩ | exact hH)
    refine tk 0 ⟨some 41, .move (.tmp 4), 62, _, _, _⟩ hH ?_
    refine tk 1 ⟨some 42, .move (.tmp 4), 62, _, _, _⟩ hH ?_
    refine tk 2 ⟨some 43, .call { callee := .builtin .len, args := #[.tmp 42], argTypes := #[62] }, 3, _, _, _⟩ hH ?_
    refine tk 3 ⟨some 44, .binOp .sub 3 (.tmp 43) (.const (.int .i64 1)) 3, 3, _, _, _⟩ hH ?_
    refine tk 4 ⟨some 45, .indexAddr 62 (.tmp 41) (.tmp 44), 0, _, _, _⟩ hH ?_
    refine tk 5 ⟨some 46, .load 3 (.tmp 45), 3, _, _, _⟩ hH ?_
    refine tk 6 ⟨some 47, .fieldAddr 23 (.tmp 1) 2, 0, _, _, _⟩ hH ?_
    refine tk 7 ⟨some 48, .load 3 (.tmp 47), 3, _, _, _⟩ hH ?_
    refine tk 8 ⟨some 49, .binOp .sub 3 (.tmp 46) (.tmp 48) 3, 3, _, _, _⟩ hH ?_
    refine tk 9 ⟨some 5, .assign (.tmp 49), 3, _, _, _⟩ hH ?_
    refine wpAnyH_done (by kernel_rfl) ?_ _
    clear cA cS hH
    have hB2 := hB'.out
    have hO2 := hO'.out
    have hcS := cl ((Below.refl wr.heap.size wr).drew) hcS0
    have hbs2 : w2.heap.size ≤ wr.drew.heap.size := hB2.size
    clear hB' hO' hcS0
    generalize wr.drew = wx at *
    by_cases hneg : lk - st < 0
    ·skip
     have hL : Ld (k + 1) = 0 := by rw [hn]; omega
     have hneg' : decide (lk - st < 0) = true := decide_eq_true hneg
     obtain ⟨v', w3, hrun, hown, hb3⟩ := appI_one (0) hO2 hB2 (by rw [HLN.out]; omega) hbs2
     rw [← hL, ← HTm] at hown
     obtain ⟨pv, cv, rfl, _, _⟩ := hown.read
     rw [HLN.out (m + 1)] at hrun hown
     have HOW := Lib.hid hown
     have HB3 := Lib.hid hb3
     have HRUN := Lib.hid hrun
     have HLN2 := Lib.hid (HLN.out (m + 1))
     clear hrun hown hb3 hO2 hB2 HTm hn hL hcS
     have tok : True := trivial
     go_wp2_with (have _t := tok; at_builtin; refine wpList_appS rfl (.tmp 52) (.tmp 54) 62 rfl rfl rfl HRUN.out ?_; clear tok HRUN)
     exact ⟨⟨k + 1, m + 1, pv, cv, by first | rfl | rw [HLN2.out], by omega, by have := hm'.out; omega, HOW, HB3⟩, by have := hm'.out; first | (simp; omega) | (rw [HLN2.out]; simp; omega)⟩
    ·skip
     have hL : Ld (k + 1) = lk - st := by rw [hn]; omega
     have hneg' : decide (lk - st < 0) = false := decide_eq_false hneg
     obtain ⟨v', w3, hrun, hown, hb3⟩ := appI_one (lk - st) hO2 hB2 (by rw [HLN.out]; omega) hbs2
     rw [← hL, ← HTm] at hown
     obtain ⟨pv, cv, rfl, _, _⟩ := hown.read
     rw [HLN.out (m + 1)] at hrun hown
     have HOW := Lib.hid hown
     have HB3 := Lib.hid hb3
     have HRUN := Lib.hid hrun
     have HLN2 := Lib.hid (HLN.out (m + 1))
     clear hrun hown hb3 hO2 hB2 HTm hn hL hcS
     have tok : True := trivial
     go_wp2_with (have _t := tok; at_builtin; refine wpList_appS rfl (.tmp 52) (.tmp 54) 62 rfl rfl rfl HRUN.out ?_; clear tok HRUN)
     exact ⟨⟨k + 1, m + 1, pv, cv, by first | rfl | rw [HLN2.out], by omega, by have := hm'.out; omega, HOW, HB3⟩, by have := hm'.out; first | (simp; omega) | (rw [HLN2.out]; simp; omega)⟩
   ·have hkQ : k = Q := by omega
    subst hkQ
    have hE := HEx.out
    have HFX := Lib.hid (HX.out _ _ (by rw [← hm]; exact hO.out.read) (below_step HB0.out hB.out))
    rw [hE] at cA
    clear hcell hcc hpp HNx HPx HRx HEx HGx HX hO hB hE cS hr hc2 HTx
    go_wp2
    exact HFX.out
theorem rlens_t (d : Dm) (w : World) : Calls Tryz.prog 31 #[dv d] w fun e w' => ∃ v, e = .returned v ∧ IS w' v (lensL d) ∧ Below w.heap.size w w' := by
 cases h : rightD d with
 | false => exact rlens_bad d h w
 | true => exact rlens_ok d h w
theorem lensL_len (d : Dm) : (lensL d).length = cntD d := lensT_len d _
theorem cnt_pos (d : Dm) : decide (0 < cntD d) = rightD d := by
 cases h : rightD d with
 | false => rw [cntD_bad h]; rfl
 | true => have := cntD_ok h; have := (depth_range h).1; exact decide_eq_true (by omega)
theorem cnt_le (d : Dm) : cntD d ≤ 129 := by
 cases h : rightD d with
 | false => rw [cntD_bad h]; omega
 | true => have := cntD_ok h; have := (depth_range h).2.1; omega
theorem r8right_t (d : Dm) (w : World) : Calls Tryz.prog 28 #[dv d] w fun e w' => e = .returned (.bool (rightD d)) ∧ Below w.heap.size w w' := by
 have HL := rlens_t d
 have hc := cnt_pos d
 rw [← hc]
 clear hc
 have hl := lensL_len d
 generalize lensL d = ls at *
 generalize cntD d = N at *
 unfold dv at *
 obtain ⟨RR0, hb0⟩ := one_row w #[.int .i64 d.kind, .int .i64 d.side, .int .i64 d.step] 23
 have c0 := (RR0.cell 0).trans (show _ = some (Value.int .i64 d.kind) from rfl)
 have c1 := (RR0.cell 1).trans (show _ = some (Value.int .i64 d.side) from rfl)
 have c2 := (RR0.cell 2).trans (show _ = some (Value.int .i64 d.step) from rfl)
 clear RR0
 go_enter Tryz.func28, Tryz.ntmps28
 go_wp2_with fail
 refine (HL _).mono ?_
 rintro e w1 ⟨v, rfl, ⟨p, cc, rfl, _, _⟩, hb⟩
 rw [hl]
 replace hb0 := below_step hb0 hb
 clear hb c0 c1 c2 HL hl
 go_wp2
 go_ret
 exact ⟨rfl, hb0⟩
theorem lenD_cnt (d : Dm) (l : Int) : (l < 0 ∨ (cntD d : Int) ≤ l) → lenD d l = -1 := fun h => lenD_no (by
 rintro ⟨r, h0, h1⟩
 have := cntD_ok r
 omega)
theorem r8len_t (d : Dm) (l : Int) (w : World) : Calls Tryz.prog 44 #[dv d, .int .i64 l] w fun e w' => e = .returned (.int .i64 (lenD d l)) ∧ Below w.heap.size w w' := by
 have HL := rlens_t d
 have hc := lenD_cnt d l
 have hl := lensL_len d
 have hg : ∀ j : Nat, l = (j : Int) → j < cntD d → (lensL d)[j]? = some (lenD d l) := fun j e h => by rw [e]; exact lensT_get h
 generalize lenD d l = r at *
 generalize lensL d = ls at *
 generalize cntD d = N at *
 unfold dv at *
 obtain ⟨RR0, hb0⟩ := one_row w #[.int .i64 d.kind, .int .i64 d.side, .int .i64 d.step] 23
 have c0 := (RR0.cell 0).trans (show _ = some (Value.int .i64 d.kind) from rfl)
 have c1 := (RR0.cell 1).trans (show _ = some (Value.int .i64 d.side) from rfl)
 have c2 := (RR0.cell 2).trans (show _ = some (Value.int .i64 d.step) from rfl)
 clear RR0
 by_cases h0 : l < 0
 ·obtain rfl := hc (.inl h0)
  clear hc hg
  go_enter Tryz.func44, Tryz.ntmps44
  go_wp2_with fail
  refine (HL _).mono ?_
  rintro e w1 ⟨v, rfl, ⟨p, cc, rfl, _, _⟩, hb⟩
  rw [hl]
  replace hb0 := below_step hb0 hb
  clear hb c0 c1 c2 HL hl
  go_wp2
  go_ret
  exact ⟨rfl, hb0⟩
 ·obtain ⟨j, rfl⟩ := Int.eq_ofNat_of_zero_le (show 0 ≤ l by omega)
  clear h0
  by_cases h1 : N ≤ j
  ·obtain rfl := hc (.inr (by omega))
   clear hc hg
   go_enter Tryz.func44, Tryz.ntmps44
   go_wp2_with fail
   refine (HL _).mono ?_
   rintro e w1 ⟨v, rfl, ⟨p, cc, rfl, _, _⟩, hb⟩
   rw [hl]
   replace hb0 := below_step hb0 hb
   clear hb c0 c1 c2 HL hl
   go_wp2
   go_ret
   exact ⟨rfl, hb0⟩
  ·have hj := hg j rfl (by omega)
   clear hc hg
   go_enter Tryz.func44, Tryz.ntmps44
   go_wp2_with fail
   refine (HL _).mono ?_
   rintro e w1 ⟨v, rfl, ⟨p, cc, rfl, h3, h4⟩, hb⟩
   rw [hl] at h3 h4 ⊢
   obtain ⟨g, o, rfl, _, hC⟩ := h4 (by omega)
   have cA := hC j r hj
   have h1' : j < N := by omega
   replace hb0 := below_step hb0 hb
   clear hb c0 c1 c2 HL hl h1 hC h4 hj
   go_wp2
   go_ret
   exact ⟨rfl, hb0⟩
theorem r8on_t (d : Dm) (l : Int) (k : Ke) (ok : k.ok) (w : World) : Calls Tryz.prog 33 #[dv d, .int .i64 l, kv k] w fun e w' => e = .returned (.bool (onD d l k)) ∧ Below w.heap.size w w' := by
 have HL := r8len_t d l
 have HR := rright_t k ok
 have hn := lenD_range d l
 have hd : onD d l k = (!decide (lenD d l = -1) && (decide (k.kind = d.kind) && (rightK k && (decide (k.len = lenD d l) || (decide (d.kind = 3) && decide (k.len < lenD d l)))))) := rfl
 clear ok
 generalize onD d l k = r at *
 generalize lenD d l = n at *
 generalize rightK k = rk at *
 obtain ⟨dk, sd, st⟩ := d
 dsimp only at *
 unfold dv kv at *
 dsimp only at *
 obtain ⟨RR0, RR1, hb0⟩ := two_rows w #[.int .i64 dk, .int .i64 sd, .int .i64 st] #[.int .i64 k.kind, .int .i64 k.len, .int .u64 k.h, .int .u64 k.l, .string ⟨k.path.toArray⟩] 23 26
 have c0 := (RR0.cell 0).trans (show _ = some (Value.int .i64 dk) from rfl)
 have c1 := (RR0.cell 1).trans (show _ = some (Value.int .i64 sd) from rfl)
 have c2 := (RR0.cell 2).trans (show _ = some (Value.int .i64 st) from rfl)
 have e0 := (RR1.cell 0).trans (show _ = some (Value.int .i64 k.kind) from rfl)
 have e1 := (RR1.cell 1).trans (show _ = some (Value.int .i64 k.len) from rfl)
 have e2 := (RR1.cell 2).trans (show _ = some (Value.int .u64 k.h) from rfl)
 have e3 := (RR1.cell 3).trans (show _ = some (Value.int .u64 k.l) from rfl)
 have e4 := (RR1.cell 4).trans (show _ = some (Value.string ⟨k.path.toArray⟩) from rfl)
 clear RR0 RR1
 by_cases h1 : n < 0
 ·have e : r = false := by rw [hd]; simp; omega
  subst e
  clear hd HR
  go_enter Tryz.func33, Tryz.ntmps33
  go_wp2_with fail
  refine (HL _).mono ?_
  rintro e w1 ⟨rfl, hb⟩
  replace c0 := cl hb c0
  replace c1 := cl hb c1
  replace c2 := cl hb c2
  replace e0 := cl hb e0
  replace e1 := cl hb e1
  replace e2 := cl hb e2
  replace e3 := cl hb e3
  replace e4 := cl hb e4
  replace hb0 := below_step hb0 hb
  clear hb
  have lc := World.block_lt_of_cell? _ _ c0
  dsimp only at lc
  have le := World.block_lt_of_cell? _ _ e0
  dsimp only at le
  go_wp2
  go_ret
  exact ⟨rfl, hb0⟩
 have h1' : ¬ n = -1 := by omega
 have h1b : decide (n < 0) = false := decide_eq_false h1
 cases rk with
 | false =>
  have e : r = false := by rw [hd]; simp
  subst e
  clear hd
  go_enter Tryz.func33, Tryz.ntmps33
  go_wp2_with fail
  refine (HL _).mono ?_
  rintro e w2 ⟨rfl, hb⟩
  replace c0 := cl hb c0
  replace c1 := cl hb c1
  replace c2 := cl hb c2
  replace e0 := cl hb e0
  replace e1 := cl hb e1
  replace e2 := cl hb e2
  replace e3 := cl hb e3
  replace e4 := cl hb e4
  replace hb0 := below_step hb0 hb
  clear hb
  have lc := World.block_lt_of_cell? _ _ c0
  dsimp only at lc
  have le := World.block_lt_of_cell? _ _ e0
  dsimp only at le
  go_wp2_with fail
  refine (HR _).mono ?_
  rintro e w3 ⟨rfl, hb⟩
  replace c0 := cl hb c0
  replace c1 := cl hb c1
  replace c2 := cl hb c2
  replace e0 := cl hb e0
  replace e1 := cl hb e1
  replace e2 := cl hb e2
  replace e3 := cl hb e3
  replace e4 := cl hb e4
  replace hb0 := below_step hb0 hb
  clear hb
  have lc := World.block_lt_of_cell? _ _ c0
  dsimp only at lc
  have le := World.block_lt_of_cell? _ _ e0
  dsimp only at le
  go_wp2
  go_ret
  exact ⟨rfl, hb0⟩
 | true =>
  by_cases h2 : k.kind = dk
  ·subst h2
   have hd2 : r = (decide (k.len = n) || (decide (k.kind = 3) && decide (k.len < n))) := by rw [hd]; simp [h1']
   clear hd
   by_cases h4 : k.kind = 3
   ·obtain ⟨kk, kn, kh, kl, kp⟩ := k
    dsimp only at *
    subst h4
    have e : r = decide (kn ≤ n) := by
     rw [hd2, Bool.eq_iff_iff]
     simp only [Bool.or_eq_true, Bool.and_eq_true, decide_eq_true_eq, true_and]
     constructor
     ·rintro (h | h) <;> omega
     ·intro h; omega
    subst e
    clear hd2
    go_enter Tryz.func33, Tryz.ntmps33
    go_wp2_with fail
    refine (HL _).mono ?_
    rintro e w4 ⟨rfl, hb⟩
    replace c0 := cl hb c0
    replace c1 := cl hb c1
    replace c2 := cl hb c2
    replace e0 := cl hb e0
    replace e1 := cl hb e1
    replace e2 := cl hb e2
    replace e3 := cl hb e3
    replace e4 := cl hb e4
    replace hb0 := below_step hb0 hb
    clear hb
    have lc := World.block_lt_of_cell? _ _ c0
    dsimp only at lc
    have le := World.block_lt_of_cell? _ _ e0
    dsimp only at le
    go_wp2_with fail
    refine (HR _).mono ?_
    rintro e w5 ⟨rfl, hb⟩
    replace c0 := cl hb c0
    replace c1 := cl hb c1
    replace c2 := cl hb c2
    replace e0 := cl hb e0
    replace e1 := cl hb e1
    replace e2 := cl hb e2
    replace e3 := cl hb e3
    replace e4 := cl hb e4
    replace hb0 := below_step hb0 hb
    clear hb
    have lc := World.block_lt_of_cell? _ _ c0
    dsimp only at lc
    have le := World.block_lt_of_cell? _ _ e0
    dsimp only at le
    go_wp2
    go_ret
    exact ⟨rfl, hb0⟩
   ·have h4' : (k.kind == 3) = false := by simpa using h4
    have e : r = (k.len == n) := by
     rw [hd2, Bool.eq_iff_iff]
     simp [h4]
    subst e
    clear hd2
    go_enter Tryz.func33, Tryz.ntmps33
    go_wp2_with fail
    refine (HL _).mono ?_
    rintro e w6 ⟨rfl, hb⟩
    replace c0 := cl hb c0
    replace c1 := cl hb c1
    replace c2 := cl hb c2
    replace e0 := cl hb e0
    replace e1 := cl hb e1
    replace e2 := cl hb e2
    replace e3 := cl hb e3
    replace e4 := cl hb e4
    replace hb0 := below_step hb0 hb
    clear hb
    have lc := World.block_lt_of_cell? _ _ c0
    dsimp only at lc
    have le := World.block_lt_of_cell? _ _ e0
    dsimp only at le
    go_wp2_with fail
    refine (HR _).mono ?_
    rintro e w7 ⟨rfl, hb⟩
    replace c0 := cl hb c0
    replace c1 := cl hb c1
    replace c2 := cl hb c2
    replace e0 := cl hb e0
    replace e1 := cl hb e1
    replace e2 := cl hb e2
    replace e3 := cl hb e3
    replace e4 := cl hb e4
    replace hb0 := below_step hb0 hb
    clear hb
    have lc := World.block_lt_of_cell? _ _ c0
    dsimp only at lc
    have le := World.block_lt_of_cell? _ _ e0
    dsimp only at le
    go_wp2
    go_ret
    exact ⟨by simp, hb0⟩
  ·have h2' : (k.kind == dk) = false := by simpa using h2
   have e : r = false := by rw [hd]; simp [h2]
   subst e
   clear hd
   go_enter Tryz.func33, Tryz.ntmps33
   go_wp2_with fail
   refine (HL _).mono ?_
   rintro e w8 ⟨rfl, hb⟩
   replace c0 := cl hb c0
   replace c1 := cl hb c1
   replace c2 := cl hb c2
   replace e0 := cl hb e0
   replace e1 := cl hb e1
   replace e2 := cl hb e2
   replace e3 := cl hb e3
   replace e4 := cl hb e4
   replace hb0 := below_step hb0 hb
   clear hb
   have lc := World.block_lt_of_cell? _ _ c0
   dsimp only at lc
   have le := World.block_lt_of_cell? _ _ e0
   dsimp only at le
   go_wp2_with fail
   refine (HR _).mono ?_
   rintro e w9 ⟨rfl, hb⟩
   replace c0 := cl hb c0
   replace c1 := cl hb c1
   replace c2 := cl hb c2
   replace e0 := cl hb e0
   replace e1 := cl hb e1
   replace e2 := cl hb e2
   replace e3 := cl hb e3
   replace e4 := cl hb e4
   replace hb0 := below_step hb0 hb
   clear hb
   have lc := World.block_lt_of_cell? _ _ c0
   dsimp only at lc
   have le := World.block_lt_of_cell? _ _ e0
   dsimp only at le
   go_wp2
   go_ret
   exact ⟨rfl, hb0⟩
theorem rsound_a (n : Int) (d0 d1 : Dm) (r1 : Bool)
  (H0 : ∀ w, Calls Tryz.prog 28 #[dv d0] w fun e w' => e = .returned (.bool false) ∧ Below w.heap.size w w') (w : World) :
  Calls Tryz.prog 50 #[sv ⟨1, d0, d1⟩] w fun e w' => e = .returned (.bool false) ∧ Below w.heap.size w w' := by
 have q1 := dz_eql d1
 unfold sv at *
 (try unfold dv at *)
 (try dsimp only at *)
 obtain ⟨Rc, hb0⟩ := one_row w #[.int .i64 1, .int .i64 d0.kind, .int .i64 d0.side, .int .i64 d0.step, .int .i64 d1.kind, .int .i64 d1.side, .int .i64 d1.step] 36
 (try clear c0 c1 c2 c3 c4 c5 c6); obtain ⟨c0, c1, c2, c3, c4, c5, c6⟩ := row7 Rc
 go_enter Tryz.func50, Tryz.ntmps50
 go_wp2_with fail
 refine (H0 _).mono ?_
 rintro e w1 ⟨rfl, hb⟩
 replace Rc := Rc.later hb
 replace hb0 := below_step hb0 hb
 clear hb
 have lc := Rc.lt
 (try clear c0 c1 c2 c3 c4 c5 c6); obtain ⟨c0, c1, c2, c3, c4, c5, c6⟩ := row7 Rc
 go_wp2
 go_ret
 exact ⟨rfl, hb0⟩
theorem rsound_b (n : Int) (d0 d1 : Dm) (r1 : Bool)
  (H0 : ∀ w, Calls Tryz.prog 28 #[dv d0] w fun e w' => e = .returned (.bool true) ∧ Below w.heap.size w w') (w : World) :
  Calls Tryz.prog 50 #[sv ⟨1, d0, d1⟩] w fun e w' => e = .returned (.bool (decide (d1 = dz))) ∧ Below w.heap.size w w' := by
 have q1 := dz_eql d1
 generalize decide (d1 = dz) = z1 at *
 unfold sv at *
 (try unfold dv at *)
 (try dsimp only at *)
 obtain ⟨Rc, hb0⟩ := one_row w #[.int .i64 1, .int .i64 d0.kind, .int .i64 d0.side, .int .i64 d0.step, .int .i64 d1.kind, .int .i64 d1.side, .int .i64 d1.step] 36
 (try clear c0 c1 c2 c3 c4 c5 c6); obtain ⟨c0, c1, c2, c3, c4, c5, c6⟩ := row7 Rc
 go_enter Tryz.func50, Tryz.ntmps50
 go_wp2_with fail
 refine (H0 _).mono ?_
 rintro e w1 ⟨rfl, hb⟩
 replace Rc := Rc.later hb
 replace hb0 := below_step hb0 hb
 clear hb
 have lc := Rc.lt
 (try clear c0 c1 c2 c3 c4 c5 c6); obtain ⟨c0, c1, c2, c3, c4, c5, c6⟩ := row7 Rc
 go_wp2
 go_ret
 exact ⟨rfl, hb0⟩
theorem rsound_c (n : Int) (d0 d1 : Dm) (r1 : Bool)
  (h1 : ¬ n = 1) (h2 : ¬ n = 2) (w : World) :
  Calls Tryz.prog 50 #[sv ⟨n, d0, d1⟩] w fun e w' => e = .returned (.bool false) ∧ Below w.heap.size w w' := by
 have q1 := dz_eql d1
 have n1 : (n == 1) = false := by simpa using h1
 have n2 : (n == 2) = false := by simpa using h2
 unfold sv at *
 (try unfold dv at *)
 (try dsimp only at *)
 obtain ⟨Rc, hb0⟩ := one_row w #[.int .i64 n, .int .i64 d0.kind, .int .i64 d0.side, .int .i64 d0.step, .int .i64 d1.kind, .int .i64 d1.side, .int .i64 d1.step] 36
 (try clear c0 c1 c2 c3 c4 c5 c6); obtain ⟨c0, c1, c2, c3, c4, c5, c6⟩ := row7 Rc
 go_enter Tryz.func50, Tryz.ntmps50
 go_wp2
 go_ret
 exact ⟨rfl, hb0⟩
theorem rsound_d (n : Int) (d0 d1 : Dm) (r1 : Bool)
  (H0 : ∀ w, Calls Tryz.prog 28 #[dv d0] w fun e w' => e = .returned (.bool false) ∧ Below w.heap.size w w') (w : World) :
  Calls Tryz.prog 50 #[sv ⟨2, d0, d1⟩] w fun e w' => e = .returned (.bool false) ∧ Below w.heap.size w w' := by
 have q1 := dz_eql d1
 unfold sv at *
 (try unfold dv at *)
 (try dsimp only at *)
 obtain ⟨Rc, hb0⟩ := one_row w #[.int .i64 2, .int .i64 d0.kind, .int .i64 d0.side, .int .i64 d0.step, .int .i64 d1.kind, .int .i64 d1.side, .int .i64 d1.step] 36
 (try clear c0 c1 c2 c3 c4 c5 c6); obtain ⟨c0, c1, c2, c3, c4, c5, c6⟩ := row7 Rc
 go_enter Tryz.func50, Tryz.ntmps50
 go_wp2_with fail
 refine (H0 _).mono ?_
 rintro e w1 ⟨rfl, hb⟩
 replace Rc := Rc.later hb
 replace hb0 := below_step hb0 hb
 clear hb
 have lc := Rc.lt
 (try clear c0 c1 c2 c3 c4 c5 c6); obtain ⟨c0, c1, c2, c3, c4, c5, c6⟩ := row7 Rc
 go_wp2
 go_ret
 exact ⟨rfl, hb0⟩
theorem rsound_e (n : Int) (d0 d1 : Dm) (r1 : Bool)
  (H0 : ∀ w, Calls Tryz.prog 28 #[dv d0] w fun e w' => e = .returned (.bool true) ∧ Below w.heap.size w w')
  (H1 : ∀ w, Calls Tryz.prog 28 #[dv d1] w fun e w' => e = .returned (.bool r1) ∧ Below w.heap.size w w') (w : World) :
  Calls Tryz.prog 50 #[sv ⟨2, d0, d1⟩] w fun e w' => e = .returned (.bool r1) ∧ Below w.heap.size w w' := by
 have q1 := dz_eql d1
 unfold sv at *
 (try unfold dv at *)
 (try dsimp only at *)
 obtain ⟨Rc, hb0⟩ := one_row w #[.int .i64 2, .int .i64 d0.kind, .int .i64 d0.side, .int .i64 d0.step, .int .i64 d1.kind, .int .i64 d1.side, .int .i64 d1.step] 36
 (try clear c0 c1 c2 c3 c4 c5 c6); obtain ⟨c0, c1, c2, c3, c4, c5, c6⟩ := row7 Rc
 go_enter Tryz.func50, Tryz.ntmps50
 go_wp2_with fail
 refine (H0 _).mono ?_
 rintro e w1 ⟨rfl, hb⟩
 replace Rc := Rc.later hb
 replace hb0 := below_step hb0 hb
 clear hb
 have lc := Rc.lt
 (try clear c0 c1 c2 c3 c4 c5 c6); obtain ⟨c0, c1, c2, c3, c4, c5, c6⟩ := row7 Rc
 go_wp2_with fail
 refine (H1 _).mono ?_
 rintro e w2 ⟨rfl, hb⟩
 replace Rc := Rc.later hb
 replace hb0 := below_step hb0 hb
 clear hb
 have lc := Rc.lt
 (try clear c0 c1 c2 c3 c4 c5 c6); obtain ⟨c0, c1, c2, c3, c4, c5, c6⟩ := row7 Rc
 go_wp2
 go_ret
 exact ⟨rfl, hb0⟩
theorem rsound_t (s : Sp) (w : World) : Calls Tryz.prog 50 #[sv s] w fun e w' => e = .returned (.bool (soundS s)) ∧ Below w.heap.size w w' := by
 have H0 := r8right_t s.d0
 have H1 := r8right_t s.d1
 unfold soundS
 obtain ⟨n, d0, d1⟩ := s
 dsimp only at *
 by_cases h1 : n = 1
 ·subst h1
  rw [if_pos rfl]
  cases hr : rightD d0 with
  | false => rw [hr] at H0; exact rsound_a 1 d0 d1 false H0 w
  | true => rw [hr] at H0; exact rsound_b 1 d0 d1 false H0 w
 ·rw [if_neg h1]
  by_cases h2 : n = 2
  ·subst h2
   rw [decide_eq_true rfl, Bool.true_and]
   cases hr : rightD d0 with
   | false => rw [hr] at H0; exact rsound_d 1 d0 d1 false H0 w
   | true => rw [hr] at H0; exact rsound_e 1 d0 d1 _ H0 H1 w
  ·rw [decide_eq_false h2]
   exact rsound_c n d0 d1 false h1 h2 w
theorem rnum_go (n : Int) (t : ByteArray) (n0 : 0 ≤ n) (n1 : n ≤ 128) (w : World)
  (HP : ∀ w', Below w.heap.size w w' → Calls Tryz.prog 72 #[.agg #[.int .u64 0, .int .u64 n]] w' fun e w'' => e = .returned (.string t) ∧ Below w'.heap.size w' w'')
  : Calls Tryz.prog 32 #[.int .i64 n] w fun e w' => e = .returned (.string t) ∧ Below w.heap.size w w' := by
 have hw : IntKind.u64.wrap n = n := by rw [IntKind.wrap_u64]; omega
 go_enter Tryz.func32, Tryz.ntmps32
 go_wp2_with fail
 refine (HP _ (Below.refl _ _)).mono ?_
 rintro e w1 ⟨rfl, hb0⟩
 go_wp2
 exact bodyPost_ret (v := .string t) (by simp [results, Tryz.results32, go_sem]) rfl ⟨rfl, hb0⟩
theorem rwhole_1 (t : ByteArray) (a : Int) (ok : Bool) (k : Ke) (w : World)
  (HP : ∀ w', Below w.heap.size w w' → Calls Tryz.prog 66 #[.string t] w' fun e w'' => e = .returned (.tuple #[.int .u32 a, .bool ok]) ∧ Below w'.heap.size w' w'')
  (HF : ∀ w', Below w.heap.size w w' → Calls Tryz.prog 67 #[.int .u32 a] w' fun e w'' => e = .returned (kv k) ∧ Below w'.heap.size w' w'')
  : Calls Tryz.prog 30 #[.int .i64 1, .string t] w fun e w' => e = .returned (.tuple #[kv k, .bool ok]) ∧ Below w.heap.size w w' := by
 unfold kv at *
 obtain ⟨Rr, hb0⟩ := one_row w #[.int .i64 0, .int .i64 0, .int .u64 0, .int .u64 0, .string ⟨#[]⟩] 26
 (try clear r0 r1 r2 r3 r4); obtain ⟨r0, r1, r2, r3, r4⟩ := row5 Rr
 go_enter Tryz.func30, Tryz.ntmps30
 go_wp2_with fail
 refine (HP _ hb0).mono ?_
 rintro e w1 ⟨rfl, hb⟩
 replace Rr := Rr.later hb
 replace hb0 := below_step hb0 hb
 clear hb
 have lr := Rr.lt
 (try clear r0 r1 r2 r3 r4); obtain ⟨r0, r1, r2, r3, r4⟩ := row5 Rr
 go_wp2_with fail
 refine (HF _ hb0).mono ?_
 rintro e w2 ⟨rfl, hb⟩
 replace Rr := Rr.later hb
 replace hb0 := below_step hb0 hb
 clear hb
 have lr := Rr.lt
 (try clear r0 r1 r2 r3 r4); obtain ⟨r0, r1, r2, r3, r4⟩ := row5 Rr
 obtain ⟨rf0, rf1, rf2, rf3, rf4⟩ := fz5 Rr
 go_wp2
 obtain ⟨w3, hwk, hwn⟩ := pnm w2 w.heap.size 0 [.int .i64 k.kind, .int .i64 k.len, .int .u64 k.h, .int .u64 k.l, .string ⟨k.path.toArray⟩]
 simp only [World.setCells] at hwk
 rw [← hwk]; clear hwk
 replace Rr : Row w3 w.heap.size #[.int .i64 k.kind, .int .i64 k.len, .int .u64 k.h, .int .u64 k.l, .string ⟨k.path.toArray⟩] 26 := psm hwn Rr (by simp [setL])
 replace hb0 := pbl hwn hb0
 clear hwn r0 r1 r2 r3 r4
 (try clear rf0 rf1 rf2 rf3 rf4)
 (try clear r0 r1 r2 r3 r4); obtain ⟨r0, r1, r2, r3, r4⟩ := row5 Rr
 exact bodyPost_ret (v := .tuple #[.agg #[.int .i64 k.kind, .int .i64 k.len, .int .u64 k.h, .int .u64 k.l, .string ⟨k.path.toArray⟩], .bool ok]) (by simp [results, Tryz.results30, go_sem, r0, r1, r2, r3, r4]) rfl ⟨rfl, hb0⟩
theorem rwhole_2 (t : ByteArray) (h l : Int) (ok : Bool) (k : Ke) (w : World)
  (HP : ∀ w', Below w.heap.size w w' → Calls Tryz.prog 68 #[.string t] w' fun e w'' => e = .returned (.tuple #[.agg #[.int .u64 h, .int .u64 l], .bool ok]) ∧ Below w'.heap.size w' w'')
  (HF : ∀ w', Below w.heap.size w w' → Calls Tryz.prog 69 #[.int .u64 h, .int .u64 l] w' fun e w'' => e = .returned (kv k) ∧ Below w'.heap.size w' w'')
  : Calls Tryz.prog 30 #[.int .i64 2, .string t] w fun e w' => e = .returned (.tuple #[kv k, .bool ok]) ∧ Below w.heap.size w w' := by
 unfold kv at *
 obtain ⟨Rr, hb0⟩ := one_row w #[.int .i64 0, .int .i64 0, .int .u64 0, .int .u64 0, .string ⟨#[]⟩] 26
 (try clear r0 r1 r2 r3 r4); obtain ⟨r0, r1, r2, r3, r4⟩ := row5 Rr
 go_enter Tryz.func30, Tryz.ntmps30
 go_wp2_with fail
 refine (HP _ hb0).mono ?_
 rintro e w1 ⟨rfl, hb⟩
 replace Rr := Rr.later hb
 replace hb0 := below_step hb0 hb
 clear hb
 have lr := Rr.lt
 (try clear r0 r1 r2 r3 r4); obtain ⟨r0, r1, r2, r3, r4⟩ := row5 Rr
 go_wp2_with fail
 refine (HF _ (hb0.alloc hb0.size _)).mono ?_
 rintro e w2 ⟨rfl, hb⟩
 have nbr := Rr.lt
 replace Rr := (Rr.alloc _).later hb
 have Rb := Row.later (Row.new _ _ _) hb
 have mb := hb0.size
 replace hb0 := below_step (hb0.alloc hb0.size _) hb
 clear hb
 generalize w1.heap.size = gb at *
 have lr := Rr.lt
 have lb := Rb.lt
 (try clear r0 r1 r2 r3 r4); obtain ⟨r0, r1, r2, r3, r4⟩ := row5 Rr
 (try clear b0 b1); obtain ⟨b0, b1⟩ := row2 Rb
 obtain ⟨rf0, rf1, rf2, rf3, rf4⟩ := fz5 Rr
 go_wp2
 obtain ⟨w3, hwk, hwn⟩ := pnm w2 w.heap.size 0 [.int .i64 k.kind, .int .i64 k.len, .int .u64 k.h, .int .u64 k.l, .string ⟨k.path.toArray⟩]
 simp only [World.setCells] at hwk
 rw [← hwk]; clear hwk
 replace Rr : Row w3 w.heap.size #[.int .i64 k.kind, .int .i64 k.len, .int .u64 k.h, .int .u64 k.l, .string ⟨k.path.toArray⟩] 26 := psm hwn Rr (by simp [setL])
 replace Rb := prf hwn Rb
 replace hb0 := pbl hwn hb0
 clear hwn r0 r1 r2 r3 r4 b0 b1
 (try clear rf0 rf1 rf2 rf3 rf4)
 (try clear r0 r1 r2 r3 r4); obtain ⟨r0, r1, r2, r3, r4⟩ := row5 Rr
 (try clear b0 b1); obtain ⟨b0, b1⟩ := row2 Rb
 exact bodyPost_ret (v := .tuple #[.agg #[.int .i64 k.kind, .int .i64 k.len, .int .u64 k.h, .int .u64 k.l, .string ⟨k.path.toArray⟩], .bool ok]) (by simp [results, Tryz.results30, go_sem, r0, r1, r2, r3, r4]) rfl ⟨rfl, hb0⟩
theorem rwhole_3 (t : ByteArray) (n : Nat) (ok : Bool) (w : World)
  (HP : ∀ w', Below w.heap.size w w' → Calls Tryz.prog 70 #[.string t] w' fun e w'' => (∃ (p : Option Addr) (c : Nat), e = .returned (.tuple #[.slice p n c, .bool ok])) ∧ Below w'.heap.size w' w'')
  : Calls Tryz.prog 30 #[.int .i64 3, .string t] w fun e w' => e = .returned (.tuple #[.agg #[.int .i64 3, .int .i64 n, .int .u64 0, .int .u64 0, .string t], .bool ok]) ∧ Below w.heap.size w w' := by
 obtain ⟨Rr, hb0⟩ := one_row w #[.int .i64 0, .int .i64 0, .int .u64 0, .int .u64 0, .string ⟨#[]⟩] 26
 (try clear r0 r1 r2 r3 r4); obtain ⟨r0, r1, r2, r3, r4⟩ := row5 Rr
 go_enter Tryz.func30, Tryz.ntmps30
 go_wp2_with fail
 refine (HP _ hb0).mono ?_
 rintro e w1 ⟨⟨p, c, rfl⟩, hb⟩
 replace Rr := Rr.later hb
 replace hb0 := below_step hb0 hb
 clear hb
 have lr := Rr.lt
 (try clear r0 r1 r2 r3 r4); obtain ⟨r0, r1, r2, r3, r4⟩ := row5 Rr
 obtain ⟨rf0, rf1, rf2, rf3, rf4⟩ := fz5 Rr
 go_wp2
 obtain ⟨w2, hwk, hwn⟩ := pnm w1 w.heap.size 0 [.int .i64 3, .int .i64 n, .int .u64 0, .int .u64 0, .string t]
 simp only [World.setCells] at hwk
 rw [← hwk]; clear hwk
 replace Rr : Row w2 w.heap.size #[.int .i64 3, .int .i64 n, .int .u64 0, .int .u64 0, .string t] 26 := psm hwn Rr (by simp [setL])
 replace hb0 := pbl hwn hb0
 clear hwn r0 r1 r2 r3 r4
 (try clear rf0 rf1 rf2 rf3 rf4)
 (try clear r0 r1 r2 r3 r4); obtain ⟨r0, r1, r2, r3, r4⟩ := row5 Rr
 exact bodyPost_ret (v := .tuple #[.agg #[.int .i64 3, .int .i64 n, .int .u64 0, .int .u64 0, .string t], .bool ok]) (by simp [results, Tryz.results30, go_sem, r0, r1, r2, r3, r4]) rfl ⟨rfl, hb0⟩
theorem rparse6_no (l : List UInt8) (hl : l.length ≤ 2000000) (hix : Lib.index l [58, 58] = -1) (hcc : cc l = (l, [], false)) (w : World) : Calls Tryz.prog 68 #[.string ⟨l.toArray⟩] w (RParPost (parse6 l) w) := by
 have hpd : parse6 l = match readV true l with
   | some u => if u.length = 8 then some u else none
   | none => none := by
  unfold parse6
  rw [hcc]
  dsimp only
  have h2 : readV true [] = some [] := rfl
  rw [h2, show (!false) = true from rfl]
  cases readV true l with
  | none => rfl
  | some u =>
   dsimp only
   by_cases h8 : u.length = 8
   ·rw [if_pos (by simp [fits, h8]), if_pos h8]; simp [h8]
   ·rw [if_neg (by simp [fits, h8]), if_neg h8]
 have HPD := Lib.hid hpd
 clear hpd hcc
 generalize parse6 l = pr at *
 have hrd := fun wq => read_use true l hl wq
 have HRL := Lib.hid (fun vs (h : readV true l = some vs) => readV_lt h)
 go_enter Tryz.func68, Tryz.ntmps68
 go_wp2_with fail
 have R0 : Row (((w.alloc (.cells #[.int .u64 0, .int .u64 0] 75)).alloc (.cells #[.int .u64 0, .int .u64 0] 75)).alloc (.cells #[.int .u16 0, .int .u16 0, .int .u16 0, .int .u16 0, .int .u16 0, .int .u16 0, .int .u16 0, .int .u16 0] 107)) w.heap.size #[.int .u64 0, .int .u64 0] 75 := ((Row.new w _ _).alloc _).alloc _
 have N0 : Row (((w.alloc (.cells #[.int .u64 0, .int .u64 0] 75)).alloc (.cells #[.int .u64 0, .int .u64 0] 75)).alloc (.cells #[.int .u16 0, .int .u16 0, .int .u16 0, .int .u16 0, .int .u16 0, .int .u16 0, .int .u16 0, .int .u16 0] 107)) (w.heap.size + 1) #[.int .u64 0, .int .u64 0] 75 := by simpa using (Row.new (w.alloc (.cells #[.int .u64 0, .int .u64 0] 75)) #[.int .u64 0, .int .u64 0] 75).alloc (.cells #[.int .u16 0, .int .u16 0, .int .u16 0, .int .u16 0, .int .u16 0, .int .u16 0, .int .u16 0, .int .u16 0] 107)
 have G0 : Row (((w.alloc (.cells #[.int .u64 0, .int .u64 0] 75)).alloc (.cells #[.int .u64 0, .int .u64 0] 75)).alloc (.cells #[.int .u16 0, .int .u16 0, .int .u16 0, .int .u16 0, .int .u16 0, .int .u16 0, .int .u16 0, .int .u16 0] 107)) (w.heap.size + 2) (cellsV []) 107 := by
  have h := Row.new ((w.alloc (.cells #[.int .u64 0, .int .u64 0] 75)).alloc (.cells #[.int .u64 0, .int .u64 0] 75)) #[.int .u16 0, .int .u16 0, .int .u16 0, .int .u16 0, .int .u16 0, .int .u16 0, .int .u16 0, .int .u16 0] 107
  rw [show ((w.alloc (.cells #[.int .u64 0, .int .u64 0] 75)).alloc (.cells #[.int .u64 0, .int .u64 0] 75)).heap.size = w.heap.size + 2 by simp] at h
  exact h
 have hb0 : Below w.heap.size w (((w.alloc (.cells #[.int .u64 0, .int .u64 0] 75)).alloc (.cells #[.int .u64 0, .int .u64 0] 75)).alloc (.cells #[.int .u16 0, .int .u16 0, .int .u16 0, .int .u16 0, .int .u16 0, .int .u16 0, .int .u16 0, .int .u16 0] 107)) := (by repeat (first | exact Below.refl _ _ | assumption | (with_reducible refine Below.drew ?_) | ((with_reducible first | refine Below.setCell ?_ ?h _ | refine Below.alloc ?_ ?h _ | refine Below.trans ?_ (hb2.mono ?h) | refine Below.trans ?_ (hb0.mono ?h)); case h => first | omega | (simp; done) | (simp; omega))))
 have hz0 : (((w.alloc (.cells #[.int .u64 0, .int .u64 0] 75)).alloc (.cells #[.int .u64 0, .int .u64 0] 75)).alloc (.cells #[.int .u16 0, .int .u16 0, .int .u16 0, .int .u16 0, .int .u16 0, .int .u16 0, .int .u16 0, .int .u16 0] 107)).heap.size = w.heap.size + 3 := by simp
 generalize ((w.alloc (.cells #[.int .u64 0, .int .u64 0] 75)).alloc (.cells #[.int .u64 0, .int .u64 0] 75)).alloc (.cells #[.int .u16 0, .int .u16 0, .int .u16 0, .int .u16 0, .int .u16 0, .int .u16 0, .int .u16 0, .int .u16 0] 107) = w0 at *
 refine (rcut_t l hl w0).mono ?_
 rintro e w1 ⟨rfl, rfl⟩
 rw [hix]
 have HR0 := Lib.hid R0
 have HN0 := Lib.hid N0
 have HG0 := Lib.hid G0
 have HB0 := Lib.hid hb0
 have HRD := Lib.hid hrd
 clear R0 N0 G0 hb0 hrd hix
 go_wp2_with fail
 refine (HRD.out _).mono ?_
 rintro e w2 ⟨hP, hb2⟩
 have HR := Lib.hid (HR0.out.later hb2)
 have HN := Lib.hid (HN0.out.later hb2)
 have HG := Lib.hid (HG0.out.later hb2)
 have HB := Lib.hid (below_step HB0.out hb2)
 clear HR0 HN0 HG0 HB0 HRD hb2
 cases hq : readV true l with
 | none =>
  rw [hq] at hP
  subst hP
  have HP : Hid (pr = none) := Lib.hid (by rw [HPD.out, hq])
  clear hq HPD HRL
  have n0 := (HN.out.cell 0).trans (show _ = some (Value.int .u64 0) from rfl)
  have n1 := (HN.out.cell 1).trans (show _ = some (Value.int .u64 0) from rfl)
  have r0 := (HR.out.cell 0).trans (show _ = some (Value.int .u64 0) from rfl)
  have r1 := (HR.out.cell 1).trans (show _ = some (Value.int .u64 0) from rfl)
  have f0 := HR.out.frozen 0
  have f1 := HR.out.frozen 1
  go_wp2
  have Q2 := (HR.out.set 0 (.int .u64 0)).set 1 (.int .u64 0)
  have s0 := (Q2.cell 0).trans (show _ = some (Value.int .u64 0) from rfl)
  have s1 := (Q2.cell 1).trans (show _ = some (Value.int .u64 0) from rfl)
  clear n0 n1 r0 r1 f0 f1
  exact bodyPost_ret (v := .tuple #[.agg #[.int .u64 0, .int .u64 0], .bool false]) (by simp only [results, Tryz.results68]; simp [go_sem, s0, s1]) rfl (by rw [HP.out]; exact ⟨rfl, (HB.out.setCell (p := ⟨w.heap.size, 0, none⟩) (Nat.le_refl _) _).setCell (p := ⟨w.heap.size, 1, none⟩) (Nat.le_refl _) _⟩)
 | some vs =>
  rw [hq] at hP
  obtain ⟨p, c, g, _, rfl, hp, hg, hc⟩ := hP
  have HRGS := Lib.hid (HRL.out vs hq)
  have HPD2 : Hid (pr = if vs.length = 8 then some vs else none) := Lib.hid (by rw [HPD.out, hq])
  clear hq HPD HRL
  by_cases h8 : vs.length = 8
  ·have HP := Lib.hid (HPD2.out.trans (if_pos h8))
   obtain rfl := hp (by omega)
   have HS := Lib.hid hc
   have HRG := HRGS
   have hgne : g ≠ w.heap.size + 2 := by omega
   clear HPD2 hp hc
   rw [h8]
   go_wp2_with fail
   go_loopw [9] (fun i wr => ∃ (j : Nat), j ≤ 8 ∧ i = .int .i64 (j : Nat) ∧ Hid (Row wr w.heap.size #[.int .u64 0, .int .u64 0] 75) ∧ Hid (Row wr (w.heap.size + 2) (cellsV (vs.take j)) 107) ∧ Hid (Below w.heap.size w wr) ∧ Hid (0 < vs.length → ∀ (k x : Nat), vs[k]? = some x → wr.cell? ⟨g, k, none⟩ = some (.int .u16 (x : Int)))) (fun i _ => 8 - (intOf i).toNat)
   case atStart => exact ⟨0, by omega, rfl, HR, Lib.hid (by rw [List.take_zero]; exact HG.out), HB, HS⟩
   case round =>
    clear HR HG HB HS
    obtain ⟨j, hj, rfl, HR, HG, HB, HS⟩ := hrel
    by_cases hlt : j < 8
    ·have hlt' : (j : Int) < (8 : Int) := by omega
     have hx : vs[j]? = some vs[j] := List.getElem?_eq_getElem (by omega)
     have hxr : vs[j] ≤ 65535 := HRGS.out _ (List.getElem_mem (by omega))
     have sc := HS.out (by omega) j _ hx
     have g0 := (HG.out.cell j).trans (cellsV_get (vs.take j) j hlt)
     have gf := HG.out.frozen j
     have HSET := Lib.hid (cellsV_take vs j (by omega) hlt)
     generalize vs[j] = x at *
     clear hx
     go_wp2
     refine ⟨⟨j + 1, by omega, by go_num, Lib.hid (HR.out.set_far _ _ (by dsimp only; omega)), Lib.hid ?_, Lib.hid (HB.out.setCell (by dsimp only; omega) _), Lib.hid (fun h k y hy => (World.cell?_setCell_far _ _ _ _ (by dsimp only; omega)).trans (HS.out h k y hy))⟩, by simp [intOf]; omega⟩
     rw [← HSET.out]
     exact HG.out.set j _
    ·have hj8 : j = 8 := by omega
     subst hj8
     replace HG := Lib.hid (show Row _ _ (cellsV vs) _ by have := HG.out; rwa [List.take_of_length_le (by omega)] at this)
     have hlt' : ¬ (8 : Int) < 8 := by omega
     clear HS
     have c0 := (HG.out.cell 0).trans (show _ = some (Value.int .u16 (lf vs 0)) from rfl)
     have c1 := (HG.out.cell 1).trans (show _ = some (Value.int .u16 (lf vs 1)) from rfl)
     have c2 := (HG.out.cell 2).trans (show _ = some (Value.int .u16 (lf vs 2)) from rfl)
     have c3 := (HG.out.cell 3).trans (show _ = some (Value.int .u16 (lf vs 3)) from rfl)
     have c4 := (HG.out.cell 4).trans (show _ = some (Value.int .u16 (lf vs 4)) from rfl)
     have c5 := (HG.out.cell 5).trans (show _ = some (Value.int .u16 (lf vs 5)) from rfl)
     have c6 := (HG.out.cell 6).trans (show _ = some (Value.int .u16 (lf vs 6)) from rfl)
     have c7 := (HG.out.cell 7).trans (show _ = some (Value.int .u16 (lf vs 7)) from rfl)
     go_wp2_with fail
     refine (rof_t (lf vs) (lf_range HRG.out) _).mono ?_
     rintro e w9 ⟨rfl, hb9⟩
     have HR9 := Lib.hid (HR.out.later hb9)
     have HB9 := Lib.hid (below_step HB.out hb9)
     clear hb9 c0 c1 c2 c3 c4 c5 c6 c7
     have r0 := (HR9.out.cell 0).trans (show _ = some (Value.int .u64 0) from rfl)
     have r1 := (HR9.out.cell 1).trans (show _ = some (Value.int .u64 0) from rfl)
     have f0 := HR9.out.frozen 0
     have f1 := HR9.out.frozen 1
     go_wp2
     have Q2 := (HR9.out.set 0 (.int .u64 (hi (ofN (lf vs) 8)))).set 1 (.int .u64 (lo (ofN (lf vs) 8)))
     have s0 := (Q2.cell 0).trans (show _ = some (Value.int .u64 (hi (ofN (lf vs) 8))) from rfl)
     have s1 := (Q2.cell 1).trans (show _ = some (Value.int .u64 (lo (ofN (lf vs) 8))) from rfl)
     clear r0 r1 f0 f1
     exact bodyPost_ret (v := .tuple #[.agg #[.int .u64 (hi (ofN (lf vs) 8)), .int .u64 (lo (ofN (lf vs) 8))], .bool true]) (by simp only [results, Tryz.results68]; simp [go_sem, s0, s1]) rfl (by rw [HP.out]; exact ⟨rfl, (HB9.out.setCell (p := ⟨w.heap.size, 0, none⟩) (Nat.le_refl _) _).setCell (p := ⟨w.heap.size, 1, none⟩) (Nat.le_refl _) _⟩)
  ·have HP : Hid (pr = none) := Lib.hid (HPD2.out.trans (if_neg h8))
   have h8' : ¬ (vs.length : Int) = 8 := by omega
   have h8b : ((vs.length : Int) != 8) = true := by simpa using h8'
   clear HPD2 HRGS hp hc
   have n0 := (HN.out.cell 0).trans (show _ = some (Value.int .u64 0) from rfl)
   have n1 := (HN.out.cell 1).trans (show _ = some (Value.int .u64 0) from rfl)
   have r0 := (HR.out.cell 0).trans (show _ = some (Value.int .u64 0) from rfl)
   have r1 := (HR.out.cell 1).trans (show _ = some (Value.int .u64 0) from rfl)
   have f0 := HR.out.frozen 0
   have f1 := HR.out.frozen 1
   go_wp2
   have Q2 := (HR.out.set 0 (.int .u64 0)).set 1 (.int .u64 0)
   have s0 := (Q2.cell 0).trans (show _ = some (Value.int .u64 0) from rfl)
   have s1 := (Q2.cell 1).trans (show _ = some (Value.int .u64 0) from rfl)
   clear n0 n1 r0 r1 f0 f1
   exact bodyPost_ret (v := .tuple #[.agg #[.int .u64 0, .int .u64 0], .bool false]) (by simp only [results, Tryz.results68]; simp [go_sem, s0, s1]) rfl (by rw [HP.out]; exact ⟨rfl, (HB.out.setCell (p := ⟨w.heap.size, 0, none⟩) (Nat.le_refl _) _).setCell (p := ⟨w.heap.size, 1, none⟩) (Nat.le_refl _) _⟩)
theorem rnum_t (n : Int) (n0 : 0 ≤ n) (n1 : n ≤ 128) (w : World) : Calls Tryz.prog 32 #[.int .i64 n] w fun e w' => e = .returned (.string ⟨(decN n.toNat).toArray⟩) ∧ Below w.heap.size w w' := by
 refine rnum_go n _ n0 n1 w (fun w' _ => ?_)
 obtain ⟨m, rfl⟩ := Int.eq_ofNat_of_zero_le n0
 have h := refPrint_t m (by unfold MM; omega) w'
 rw [show hi (m : Int) = 0 by unfold hi; omega, show lo (m : Int) = (m : Int) by unfold lo; omega] at h
 exact h
noncomputable def refK (k : Int) (s : List UInt8) : Ke := if k = 3 then ⟨3, (labsL s).length, 0, 0, s⟩ else wholeK k s
theorem refK_eq {k : Int} {s : List UInt8} (h : wholeB k s = true) : refK k s = wholeK k s := by
 unfold refK
 split
 ·rename_i e
  rw [e, wholeB_3] at h
  rw [e, wholeK_3]
  unfold pathR
  rw [if_pos h]; rfl
 ·rfl
theorem rwhole_t {k : Int} (hk : k = 1 ∨ k = 2 ∨ k = 3) (s : List UInt8) (hl : s.length ≤ 2000000) (w : World) : Calls Tryz.prog 30 #[.int .i64 k, .string ⟨s.toArray⟩] w fun e w' => e = .returned (.tuple #[kv (refK k s), .bool (wholeB k s)]) ∧ Below w.heap.size w w' := by
 rcases hk with rfl | rfl | rfl
 ·have e : refK 1 s = fourK (parse4 s).1 := rfl
  rw [e, wholeB_1]
  have hr := parse_range s
  refine rwhole_1 _ (parse4 s).1 _ _ w (fun w' _ => (rparse4_t s hl w').mono ?_) (fun w' _ => rfour_t _ hr.1 (by omega) w')
  rintro e w2 ⟨rfl, rfl⟩
  refine ⟨?_, Below.refl _ _⟩
  cases hm : mach s with
  | none => rw [mach_none hm]; rfl
  | some v => rw [mach_some hm]; rfl
 ·have e : refK 2 s = sixK (hi (six6 s)) (lo (six6 s)) := rfl
  rw [e, wholeB_2]
  refine rwhole_2 _ (hi (six6 s)) (lo (six6 s)) _ _ w (fun w' _ => (rparse6_t s hl w' (fun hix hcc => rparse6_no s hl hix hcc w')).mono ?_) (fun w' _ => rsix_t _ _ w')
  rintro e w2 ⟨h, hb⟩
  refine ⟨?_, hb⟩
  unfold six6
  cases hp : parse6 s with
  | none => rw [hp] at h; rw [h]; rfl
  | some gs => rw [hp] at h; rw [h]; rfl
 ·rw [wholeB_3]
  refine rwhole_3 _ (labsL s).length _ w (fun w' _ => (rSplit_t s (by omega) w').mono ?_)
  rintro e w2 ⟨v, rfl, ⟨p, c, rfl, _⟩, hb⟩
  exact ⟨⟨p, c, rfl⟩, hb⟩
theorem last_at (a b : List UInt8) : (a ++ 47 :: b)[a.length]? = some 47 := by simp
theorem last_no (a b : List UInt8) (hb : (47 : UInt8) ∉ b) (j : Nat) (hj : a.length < j) (x : UInt8) (hx : (a ++ 47 :: b)[j]? = some x) : x ≠ 47 := by
 rintro rfl
 rw [List.getElem?_append_right (by omega), show j - a.length = (j - a.length - 1) + 1 by omega, List.getElem?_cons_succ] at hx
 exact hb (List.mem_of_getElem? hx)
theorem rpp_bad (kd sd st : Int) (t : ByteArray) (w : World)
  (HR : ∀ w', Below w.heap.size w w' → Calls Tryz.prog 28 #[.agg #[.int .i64 kd, .int .i64 sd, .int .i64 st]] w' fun e w'' => e = .returned (.bool false) ∧ Below w'.heap.size w' w'')
  : Calls Tryz.prog 9 #[.agg #[.int .i64 kd, .int .i64 sd, .int .i64 st], .string t] w fun e w' => e = .returned (.tuple #[.int .i64 0, .agg #[.int .i64 0, .int .i64 0, .int .u64 0, .int .u64 0, .string ⟨#[]⟩], .int .i64 1]) ∧ Below w.heap.size w w' := by
 obtain ⟨Rc, Rr, hb0⟩ := two_rows w #[.int .i64 kd, .int .i64 sd, .int .i64 st] #[.int .i64 0, .int .i64 0, .int .u64 0, .int .u64 0, .string ⟨#[]⟩] 23 26
 (try clear c0 c1 c2); obtain ⟨c0, c1, c2⟩ := row3 Rc
 (try clear r0 r1 r2 r3 r4); obtain ⟨r0, r1, r2, r3, r4⟩ := row5 Rr
 go_enter Tryz.func9, Tryz.ntmps9
 go_wp2_with fail
 refine (HR _ hb0).mono ?_
 rintro e w1 ⟨rfl, hb⟩
 replace Rc := Rc.later hb
 replace Rr := Rr.later hb
 replace hb0 := below_step hb0 hb
 clear hb
 have lc := Rc.lt
 have lr := Rr.lt
 (try clear c0 c1 c2); obtain ⟨c0, c1, c2⟩ := row3 Rc
 (try clear r0 r1 r2 r3 r4); obtain ⟨r0, r1, r2, r3, r4⟩ := row5 Rr
 obtain ⟨rf0, rf1, rf2, rf3, rf4⟩ := fz5 Rr
 go_wp2
 obtain ⟨w2, hwk, hwn⟩ := pnm w1 (w.heap.size + 1) 0 [.int .i64 0, .int .i64 0, .int .u64 0, .int .u64 0, .string ⟨#[]⟩]
 simp only [World.setCells] at hwk
 rw [← hwk]; clear hwk
 replace Rr : Row w2 (w.heap.size + 1) #[.int .i64 0, .int .i64 0, .int .u64 0, .int .u64 0, .string ⟨#[]⟩] 26 := psm hwn Rr (by simp [setL])
 replace Rc := prf hwn Rc
 replace hb0 := pbl hwn hb0
 clear hwn c0 c1 c2 r0 r1 r2 r3 r4
 (try clear rf0 rf1 rf2 rf3 rf4)
 (try clear c0 c1 c2); obtain ⟨c0, c1, c2⟩ := row3 Rc
 (try clear r0 r1 r2 r3 r4); obtain ⟨r0, r1, r2, r3, r4⟩ := row5 Rr
 refine bodyPost_ret (v := .tuple #[.int .i64 0, .agg #[.int .i64 0, .int .i64 0, .int .u64 0, .int .u64 0, .string ⟨#[]⟩], .int .i64 1]) (by simp [results, Tryz.results9, go_sem, r0, r1, r2, r3, r4]) rfl ⟨rfl, hb0⟩
theorem rpp_none (kd sd st : Int) (t : List UInt8) (hl : t.length ≤ 2000000) (hn : (47 : UInt8) ∉ t) (w : World)
  (HR : ∀ w', Below w.heap.size w w' → Calls Tryz.prog 28 #[.agg #[.int .i64 kd, .int .i64 sd, .int .i64 st]] w' fun e w'' => e = .returned (.bool true) ∧ Below w'.heap.size w' w'')
  : Calls Tryz.prog 9 #[.agg #[.int .i64 kd, .int .i64 sd, .int .i64 st], .string ⟨t.toArray⟩] w fun e w' => e = .returned (.tuple #[.int .i64 0, .agg #[.int .i64 0, .int .i64 0, .int .u64 0, .int .u64 0, .string ⟨#[]⟩], .int .i64 3]) ∧ Below w.heap.size w w' := by
 have hsz := bsz t
 have HN := Lib.hid hn
 clear hn
 obtain ⟨Rc, Rr, hb0⟩ := two_rows w #[.int .i64 kd, .int .i64 sd, .int .i64 st] #[.int .i64 0, .int .i64 0, .int .u64 0, .int .u64 0, .string ⟨#[]⟩] 23 26
 (try clear c0 c1 c2); obtain ⟨c0, c1, c2⟩ := row3 Rc
 (try clear r0 r1 r2 r3 r4); obtain ⟨r0, r1, r2, r3, r4⟩ := row5 Rr
 go_enter Tryz.func9, Tryz.ntmps9
 go_wp2_with fail
 refine (HR _ hb0).mono ?_
 rintro e w1 ⟨rfl, hb⟩
 replace Rc := Rc.later hb
 replace Rr := Rr.later hb
 replace hb0 := below_step hb0 hb
 clear hb
 have lc := Rc.lt
 have lr := Rr.lt
 (try clear c0 c1 c2); obtain ⟨c0, c1, c2⟩ := row3 Rc
 (try clear r0 r1 r2 r3 r4); obtain ⟨r0, r1, r2, r3, r4⟩ := row5 Rr
 go_wp2_with fail
 go_loopw [7] (fun x wr => ((∃ j : Nat, j < t.length ∧ x = .int .i64 j) ∨ x = .int .i64 (-1)) ∧ wr = w1) (fun x _ => (intOf x + 1).toNat)
 case atStart =>
  refine ⟨?_, rfl⟩
  by_cases h0 : t.length = 0
  ·refine .inr ?_; rw [h0]; rfl
  ·exact .inl ⟨t.length - 1, by omega, by congr 1 <;> omega⟩
 case round =>
  obtain ⟨hx, rfl⟩ := hrel
  rcases hx with ⟨j, hj, rfl⟩ | rfl
  ·obtain ⟨c, hlj⟩ : ∃ c, t[j] = c := ⟨_, rfl⟩
   have hsp : j < (⟨t.toArray⟩ : ByteArray).size := by rw [hsz]; exact hj
   have hch : (⟨t.toArray⟩ : ByteArray)[j]'hsp = c := hlj
   have n47 : ¬ (c.toNat : Int) = 47 := fun e => HN.out (by
    have : c = 47 := UInt8.toNat.inj (by rw [show (47 : UInt8).toNat = 47 from rfl]; omega)
    rw [← this, ← hlj]; exact List.getElem_mem hj)
   clear hlj
   have e47 : ((c.toNat : Int) == 47) = false := by simpa using n47
   have x47 : ((c.toNat : Int) != 47) = true := by simpa using n47
   go_wp2_with fail
   refine ⟨⟨?_, by first | rfl | trivial⟩, by simp [intOf] <;> omega⟩
   by_cases h0 : j = 0
   ·refine .inr ?_; rw [h0]; rfl
   ·exact .inl ⟨j - 1, by omega, by congr 1 <;> omega⟩
  ·skip
   obtain ⟨rf0, rf1, rf2, rf3, rf4⟩ := fz5 Rr
   go_wp2
   obtain ⟨w2, hwk, hwn⟩ := pnm wr (w.heap.size + 1) 0 [.int .i64 0, .int .i64 0, .int .u64 0, .int .u64 0, .string ⟨#[]⟩]
   simp only [World.setCells] at hwk
   rw [← hwk]; clear hwk
   replace Rr : Row w2 (w.heap.size + 1) #[.int .i64 0, .int .i64 0, .int .u64 0, .int .u64 0, .string ⟨#[]⟩] 26 := psm hwn Rr (by simp [setL])
   replace Rc := prf hwn Rc
   replace hb0 := pbl hwn hb0
   clear hwn c0 c1 c2 r0 r1 r2 r3 r4
   (try clear rf0 rf1 rf2 rf3 rf4)
   (try clear c0 c1 c2); obtain ⟨c0, c1, c2⟩ := row3 Rc
   (try clear r0 r1 r2 r3 r4); obtain ⟨r0, r1, r2, r3, r4⟩ := row5 Rr
   refine bodyPost_ret (v := .tuple #[.int .i64 0, .agg #[.int .i64 0, .int .i64 0, .int .u64 0, .int .u64 0, .string ⟨#[]⟩], .int .i64 3]) (by simp [results, Tryz.results9, go_sem, r0, r1, r2, r3, r4]) rfl ⟨rfl, hb0⟩
theorem rpp_is (kd sd st : Int) (t a b : List UInt8) (m : Nat) (hl : t.length ≤ 2000000) (ht : t = a ++ 47 :: b) (hm : m = a.length) (hb : (47 : UInt8) ∉ b) (w : World)
  (HR : ∀ w', Below w.heap.size w w' → Calls Tryz.prog 28 #[.agg #[.int .i64 kd, .int .i64 sd, .int .i64 st]] w' fun e w'' => e = .returned (.bool true) ∧ Below w'.heap.size w' w'')
  (HI : ∀ w', Below w.heap.size w w' → Calls Tryz.prog 29 #[.string ⟨b.toArray⟩] w' fun e w'' => e = .returned (.bool false) ∧ Below w'.heap.size w' w'')
  : Calls Tryz.prog 9 #[.agg #[.int .i64 kd, .int .i64 sd, .int .i64 st], .string ⟨t.toArray⟩] w fun e w' => e = .returned (.tuple #[.int .i64 0, .agg #[.int .i64 0, .int .i64 0, .int .u64 0, .int .u64 0, .string ⟨#[]⟩], .int .i64 3]) ∧ Below w.heap.size w w' := by
 have hsz := bsz t
 have hat : t[m]? = some 47 := by rw [ht, hm]; exact last_at a b
 have hno : ∀ j : Nat, m < j → ∀ x, t[j]? = some x → x ≠ 47 := fun j hj x hx => by rw [ht] at hx; rw [hm] at hj; exact last_no a b hb j hj x hx
 have hlen : m + 1 + b.length = t.length := by rw [ht, hm, List.length_append, List.length_cons]; omega
 have hx1 : (⟨t.toArray⟩ : ByteArray).extract (m + 1) t.length = ⟨b.toArray⟩ := by
  rw [ext_l, List.take_length, ht, hm, ← List.drop_drop, List.drop_left]; rfl
 have hx0 : (⟨t.toArray⟩ : ByteArray).extract 0 m = ⟨a.toArray⟩ := by
  rw [ext_l, ht, hm, List.take_left]; rfl
 have hml : m < t.length := by omega
 have HAT := Lib.hid hat
 have HNO := Lib.hid hno
 clear hat hno ht hm hb
 obtain ⟨Rc, Rr, hb0⟩ := two_rows w #[.int .i64 kd, .int .i64 sd, .int .i64 st] #[.int .i64 0, .int .i64 0, .int .u64 0, .int .u64 0, .string ⟨#[]⟩] 23 26
 (try clear c0 c1 c2); obtain ⟨c0, c1, c2⟩ := row3 Rc
 (try clear r0 r1 r2 r3 r4); obtain ⟨r0, r1, r2, r3, r4⟩ := row5 Rr
 go_enter Tryz.func9, Tryz.ntmps9
 go_wp2_with fail
 refine (HR _ hb0).mono ?_
 rintro e w1 ⟨rfl, hb⟩
 replace Rc := Rc.later hb
 replace Rr := Rr.later hb
 replace hb0 := below_step hb0 hb
 clear hb
 have lc := Rc.lt
 have lr := Rr.lt
 (try clear c0 c1 c2); obtain ⟨c0, c1, c2⟩ := row3 Rc
 (try clear r0 r1 r2 r3 r4); obtain ⟨r0, r1, r2, r3, r4⟩ := row5 Rr
 go_wp2_with fail
 go_loopw [7] (fun x wr => ∃ j : Nat, m ≤ j ∧ j < t.length ∧ x = .int .i64 j ∧ wr = w1) (fun x _ => (intOf x).toNat)
 case atStart => exact ⟨t.length - 1, by omega, by omega, by congr 1 <;> omega, rfl⟩
 case round =>
  obtain ⟨j, hmj, hj, rfl, rfl⟩ := hrel
  obtain ⟨c, hlj⟩ : ∃ c, t[j]? = some c := ⟨t[j], List.getElem?_eq_getElem hj⟩
  have hsp : j < (⟨t.toArray⟩ : ByteArray).size := by rw [hsz]; exact hj
  have hch : (⟨t.toArray⟩ : ByteArray)[j]'hsp = c := by
   have := (List.getElem?_eq_some_iff.1 hlj).2
   exact this
  by_cases hjm : m < j
  ·have n47 : ¬ (c.toNat : Int) = 47 := fun e => HNO.out j hjm c hlj (UInt8.toNat.inj (by rw [show (47 : UInt8).toNat = 47 from rfl]; omega))
   clear hlj
   have e47 : ((c.toNat : Int) == 47) = false := by simpa using n47
   have x47 : ((c.toNat : Int) != 47) = true := by simpa using n47
   go_wp2_with fail
   exact ⟨⟨j - 1, by omega, by omega, by congr 1 <;> omega, by first | rfl | trivial⟩, by simp [intOf] <;> omega⟩
  ·obtain rfl : j = m := by omega
   rw [HAT.out] at hlj
   obtain rfl : (47 : UInt8) = c := by cases hlj; rfl
   have hjle : j ≤ t.length := by omega
   clear hlj HAT HNO hjm hmj
   go_wp2_with fail
   refine (HI _ hb0).mono ?_
   rintro e wh ⟨rfl, hb⟩
   replace Rc := Rc.later hb
   replace Rr := Rr.later hb
   replace hb0 := below_step hb0 hb
   clear hb
   have lr := Rr.lt
   (try clear c0 c1 c2); obtain ⟨c0, c1, c2⟩ := row3 Rc
   (try clear r0 r1 r2 r3 r4); obtain ⟨r0, r1, r2, r3, r4⟩ := row5 Rr
   obtain ⟨rf0, rf1, rf2, rf3, rf4⟩ := fz5 Rr
   go_wp2
   obtain ⟨w2, hwk, hwn⟩ := pnm wh (w.heap.size + 1) 0 [.int .i64 0, .int .i64 0, .int .u64 0, .int .u64 0, .string ⟨#[]⟩]
   simp only [World.setCells] at hwk
   rw [← hwk]; clear hwk
   replace Rr : Row w2 (w.heap.size + 1) #[.int .i64 0, .int .i64 0, .int .u64 0, .int .u64 0, .string ⟨#[]⟩] 26 := psm hwn Rr (by simp [setL])
   replace Rc := prf hwn Rc
   replace hb0 := pbl hwn hb0
   clear hwn c0 c1 c2 r0 r1 r2 r3 r4
   (try clear rf0 rf1 rf2 rf3 rf4)
   (try clear c0 c1 c2); obtain ⟨c0, c1, c2⟩ := row3 Rc
   (try clear r0 r1 r2 r3 r4); obtain ⟨r0, r1, r2, r3, r4⟩ := row5 Rr
   refine bodyPost_ret (v := .tuple #[.int .i64 0, .agg #[.int .i64 0, .int .i64 0, .int .u64 0, .int .u64 0, .string ⟨#[]⟩], .int .i64 3]) (by simp [results, Tryz.results9, go_sem, r0, r1, r2, r3, r4]) rfl ⟨rfl, hb0⟩
theorem rpp_wh (kd sd st : Int) (t a b : List UInt8) (m : Nat) (q : Ke) (hl : t.length ≤ 2000000) (ht : t = a ++ 47 :: b) (hm : m = a.length) (hb : (47 : UInt8) ∉ b) (w : World)
  (HR : ∀ w', Below w.heap.size w w' → Calls Tryz.prog 28 #[.agg #[.int .i64 kd, .int .i64 sd, .int .i64 st]] w' fun e w'' => e = .returned (.bool true) ∧ Below w'.heap.size w' w'')
  (HI : ∀ w', Below w.heap.size w w' → Calls Tryz.prog 29 #[.string ⟨b.toArray⟩] w' fun e w'' => e = .returned (.bool true) ∧ Below w'.heap.size w' w'')
  (HW : ∀ w', Below w.heap.size w w' → Calls Tryz.prog 30 #[.int .i64 kd, .string ⟨a.toArray⟩] w' fun e w'' => e = .returned (.tuple #[kv q, .bool false]) ∧ Below w'.heap.size w' w'')
  : Calls Tryz.prog 9 #[.agg #[.int .i64 kd, .int .i64 sd, .int .i64 st], .string ⟨t.toArray⟩] w fun e w' => e = .returned (.tuple #[.int .i64 0, .agg #[.int .i64 0, .int .i64 0, .int .u64 0, .int .u64 0, .string ⟨#[]⟩], .int .i64 3]) ∧ Below w.heap.size w w' := by
 unfold kv at *
 have hsz := bsz t
 have hat : t[m]? = some 47 := by rw [ht, hm]; exact last_at a b
 have hno : ∀ j : Nat, m < j → ∀ x, t[j]? = some x → x ≠ 47 := fun j hj x hx => by rw [ht] at hx; rw [hm] at hj; exact last_no a b hb j hj x hx
 have hlen : m + 1 + b.length = t.length := by rw [ht, hm, List.length_append, List.length_cons]; omega
 have hx1 : (⟨t.toArray⟩ : ByteArray).extract (m + 1) t.length = ⟨b.toArray⟩ := by
  rw [ext_l, List.take_length, ht, hm, ← List.drop_drop, List.drop_left]; rfl
 have hx0 : (⟨t.toArray⟩ : ByteArray).extract 0 m = ⟨a.toArray⟩ := by
  rw [ext_l, ht, hm, List.take_left]; rfl
 have hml : m < t.length := by omega
 have HAT := Lib.hid hat
 have HNO := Lib.hid hno
 clear hat hno ht hm hb
 obtain ⟨Rc, Rr, hb0⟩ := two_rows w #[.int .i64 kd, .int .i64 sd, .int .i64 st] #[.int .i64 0, .int .i64 0, .int .u64 0, .int .u64 0, .string ⟨#[]⟩] 23 26
 (try clear c0 c1 c2); obtain ⟨c0, c1, c2⟩ := row3 Rc
 (try clear r0 r1 r2 r3 r4); obtain ⟨r0, r1, r2, r3, r4⟩ := row5 Rr
 go_enter Tryz.func9, Tryz.ntmps9
 go_wp2_with fail
 refine (HR _ hb0).mono ?_
 rintro e w1 ⟨rfl, hb⟩
 replace Rc := Rc.later hb
 replace Rr := Rr.later hb
 replace hb0 := below_step hb0 hb
 clear hb
 have lc := Rc.lt
 have lr := Rr.lt
 (try clear c0 c1 c2); obtain ⟨c0, c1, c2⟩ := row3 Rc
 (try clear r0 r1 r2 r3 r4); obtain ⟨r0, r1, r2, r3, r4⟩ := row5 Rr
 go_wp2_with fail
 go_loopw [7] (fun x wr => ∃ j : Nat, m ≤ j ∧ j < t.length ∧ x = .int .i64 j ∧ wr = w1) (fun x _ => (intOf x).toNat)
 case atStart => exact ⟨t.length - 1, by omega, by omega, by congr 1 <;> omega, rfl⟩
 case round =>
  obtain ⟨j, hmj, hj, rfl, rfl⟩ := hrel
  obtain ⟨c, hlj⟩ : ∃ c, t[j]? = some c := ⟨t[j], List.getElem?_eq_getElem hj⟩
  have hsp : j < (⟨t.toArray⟩ : ByteArray).size := by rw [hsz]; exact hj
  have hch : (⟨t.toArray⟩ : ByteArray)[j]'hsp = c := by
   have := (List.getElem?_eq_some_iff.1 hlj).2
   exact this
  by_cases hjm : m < j
  ·have n47 : ¬ (c.toNat : Int) = 47 := fun e => HNO.out j hjm c hlj (UInt8.toNat.inj (by rw [show (47 : UInt8).toNat = 47 from rfl]; omega))
   clear hlj
   have e47 : ((c.toNat : Int) == 47) = false := by simpa using n47
   have x47 : ((c.toNat : Int) != 47) = true := by simpa using n47
   go_wp2_with fail
   exact ⟨⟨j - 1, by omega, by omega, by congr 1 <;> omega, by first | rfl | trivial⟩, by simp [intOf] <;> omega⟩
  ·obtain rfl : j = m := by omega
   rw [HAT.out] at hlj
   obtain rfl : (47 : UInt8) = c := by cases hlj; rfl
   have hjle : j ≤ t.length := by omega
   clear hlj HAT HNO hjm hmj
   go_wp2_with fail
   refine (HI _ hb0).mono ?_
   rintro e wh ⟨rfl, hb⟩
   replace Rc := Rc.later hb
   replace Rr := Rr.later hb
   replace hb0 := below_step hb0 hb
   clear hb
   have lr := Rr.lt
   (try clear c0 c1 c2); obtain ⟨c0, c1, c2⟩ := row3 Rc
   (try clear r0 r1 r2 r3 r4); obtain ⟨r0, r1, r2, r3, r4⟩ := row5 Rr
   go_wp2_with fail
   have hbW := hb0
   have lwr := lr
   replace hb0 := Below.refl wh.heap.size wh
   go_cut [8, 9] (fun s8 s9 wx => ∃ gb : Nat, s8 = .pointer (some ⟨gb, 0, none⟩) ∧ s9 = .bool false ∧ wh.heap.size ≤ gb ∧ Row wx gb #[.int .i64 q.kind, .int .i64 q.len, .int .u64 q.h, .int .u64 q.l, .string ⟨q.path.toArray⟩] 26 ∧ Row wx w.heap.size #[.int .i64 kd, .int .i64 sd, .int .i64 st] 23 ∧ Row wx (w.heap.size + 1) #[.int .i64 0, .int .i64 0, .int .u64 0, .int .u64 0, .string ⟨#[]⟩] 26 ∧ Below wh.heap.size wh wx)
   case first =>
    refine wp_region_held_drew (S := (fun w' => w'.cell? ⟨w.heap.size, 0, none⟩ = some (Value.int .i64 kd))) (by kernel_rfl) ?hSr1_ (fun hH => ?_)
    case hSr1_ => (exact c0)
    (clear c0 c1 c2 r0 r1 r2 r3 r4; (replace Rc := Rc.drew); (replace Rr := Rr.drew); (replace hb0 := hb0.drew); (generalize World.drew wh = wq at *))
    refine tk 0 ⟨some 42, .fieldAddr 23 (.tmp 2) 0, 0, _, _, _⟩ hH ?_
    refine tk 1 ⟨some 43, .load 3 (.tmp 42), 3, _, _, _⟩ hH ?_
    refine tk 2 ⟨some 44, .move (.tmp 1), 9, _, _, _⟩ hH ?_
    refine tk 3 ⟨some 45, .move (.tmp 7), 3, _, _, _⟩ hH ?_
    refine tk 4 ⟨some 46, .slice 9 (.tmp 44) none (some (.tmp 45)) none, 9, _, _, _⟩ hH ?_
    refine wpAnyH_ready (rs := [5, 9]) (by kernel_rfl) (by simp) ?_
    refine AllReadyH.cons (o := ⟨some 47, .call { callee := .value (.func 30), args := #[.tmp 43, .tmp 46], argTypes := #[3, 9] }, 60, _, _, _⟩) rfl (fun K hK => ?_) ?_
    ·(go_simp; (refine (HW _ (below_step hbW hb0)).mono ?_); (rintro e wz ⟨rfl, hb⟩); (replace Rc := Rc.later hb); (replace Rr := Rr.later hb); (try replace Rb := Rb.later hb); (replace hb0 := below_step hb0 hb); go_wp2_with fail)
     refine hK.out _ _ ?hSr1_6_5 fun _ => ?_
     case hSr1_6_5 => (exact cl hb hH)
     clear hK K hH; rename_i hH
     rename World => wq
     (try simp only [Act.put, nz1, nz2, nz3])
     refine tk 6 ⟨some 41, .move (.tmp 47), 60, _, _, _⟩ hH ?_
     refine tk 7 ⟨some 48, .extract (.tmp 41) 0, 26, _, _, _⟩ hH ?_
     refine tk 8 ⟨some 49, .extract (.tmp 41) 1, 4, _, _, _⟩ hH ?_
     refine wpAnyH_ready (rs := [9]) (by kernel_rfl) (by simp) ?_
     refine AllReadyH.cons (o := ⟨some 8, .alloc 26, 0, _, _, _⟩) rfl (fun K hK => ?_) AllReadyH.nil
     (go_simp; (have mb := hb0.size); (have nb_c := Rc.lt); (have nb_r := Rr.lt); (have Rb := Row.new wq #[.int .i64 0, .int .i64 0, .int .u64 0, .int .u64 0, .string ⟨#[]⟩] 26); (have hb : Below wq.heap.size wq (World.alloc wq (.cells #[.int .i64 0, .int .i64 0, .int .u64 0, .int .u64 0, .string ⟨#[]⟩] 26)) := (Below.refl _ _).alloc (Nat.le_refl _) _); (replace Rc := Rc.later hb); (replace Rr := Rr.later hb); (replace hb0 := below_step hb0 hb); (have hSn : (World.alloc wq (.cells #[.int .i64 0, .int .i64 0, .int .u64 0, .int .u64 0, .string ⟨#[]⟩] 26)).cell? ⟨w.heap.size, 0, none⟩ = some (Value.int .i64 kd) := by exact cl hb hH); clear hb; generalize World.alloc wq (.cells #[.int .i64 0, .int .i64 0, .int .u64 0, .int .u64 0, .string ⟨#[]⟩] 26) = wz at *; generalize wq.heap.size = gb at *)
     refine hK.out _ _ ?hSr1_10_9 fun _ => ?_
     case hSr1_10_9 => (exact hSn)
     clear hK K hH; rename_i hH
     rename World => wq
     (try simp only [Act.put, nz1, nz2, nz3])
     refine wpAnyH_ready (rs := [10]) (by kernel_rfl) (by simp) ?_
     refine AllReadyH.cons (o := ⟨none, .store 26 (.tmp 8) (.tmp 48), 0, _, _, _⟩) rfl (fun K hK => ?_) AllReadyH.nil
     ((rw [if_pos (by rfl)]); (with_reducible refine pst 26 (.tmp 8) (.tmp 48) ?_ gb 0 #[.int .i64 q.kind, .int .i64 q.len, .int .u64 q.h, .int .u64 q.l, .string ⟨q.path.toArray⟩] ?_ ?_ ?_ ?_ ?_ ?_); rfl; rfl; rfl; (exact Row.thereAt Rb 0 _ (by simp)); (exact infoKe); (simp [Value.oneCell']); (rintro wz hwz); (have hHq := hH); (have c0 := hHq); (replace c0 := pcf hwz c0); (replace Rc := prf hwz Rc); (replace Rr := prf hwz Rr); (replace hb0 := pbl hwz hb0); (replace Rb := psw hwz Rb); clear hwz)
     refine hK.out _ _ ?hSr1_11_10 fun _ => ?_
     case hSr1_11_10 => (exact c0)
     clear hK K hH; rename_i hH
     rename World => wq
     (try simp only [Act.put, nz1, nz2, nz3])
     refine tk 11 ⟨some 9, .assign (.tmp 49), 4, _, _, _⟩ hH ?_
     refine wpAnyH_done (by kernel_rfl) ?_ _
     (go_wp2_with fail; go_meet; exact ⟨gb, rfl, rfl, mb, Rb, Rc, Rr, hb0⟩)
    refine AllReadyH.cons (o := ⟨some 8, .alloc 26, 0, _, _, _⟩) rfl (fun K hK => ?_) AllReadyH.nil
    ·(go_simp; (have mb := hb0.size); (have nb_c := Rc.lt); (have nb_r := Rr.lt); (have Rb := Row.new wq #[.int .i64 0, .int .i64 0, .int .u64 0, .int .u64 0, .string ⟨#[]⟩] 26); (have hb : Below wq.heap.size wq (World.alloc wq (.cells #[.int .i64 0, .int .i64 0, .int .u64 0, .int .u64 0, .string ⟨#[]⟩] 26)) := (Below.refl _ _).alloc (Nat.le_refl _) _); (replace Rc := Rc.later hb); (replace Rr := Rr.later hb); (replace hb0 := below_step hb0 hb); (have hSn : (World.alloc wq (.cells #[.int .i64 0, .int .i64 0, .int .u64 0, .int .u64 0, .string ⟨#[]⟩] 26)).cell? ⟨w.heap.size, 0, none⟩ = some (Value.int .i64 kd) := by exact cl hb hH); clear hb; generalize World.alloc wq (.cells #[.int .i64 0, .int .i64 0, .int .u64 0, .int .u64 0, .string ⟨#[]⟩] 26) = wz at *; generalize wq.heap.size = gb at *)
     refine hK.out _ _ ?hSr1_13_9 fun _ => ?_
     case hSr1_13_9 => (exact hSn)
     clear hK K hH; rename_i hH
     rename World => wq
     (try simp only [Act.put, nz1, nz2, nz3])
     refine wpAnyH_ready (rs := [5]) (by kernel_rfl) (by simp) ?_
     refine AllReadyH.cons (o := ⟨some 47, .call { callee := .value (.func 30), args := #[.tmp 43, .tmp 46], argTypes := #[3, 9] }, 60, _, _, _⟩) rfl (fun K hK => ?_) AllReadyH.nil
     (go_simp; (refine (HW _ (below_step hbW hb0)).mono ?_); (rintro e wz ⟨rfl, hb⟩); (replace Rc := Rc.later hb); (replace Rr := Rr.later hb); (try replace Rb := Rb.later hb); (replace hb0 := below_step hb0 hb); go_wp2_with fail)
     refine hK.out _ _ ?hSr1_14_5 fun _ => ?_
     case hSr1_14_5 => (exact cl hb hH)
     clear hK K hH; rename_i hH
     rename World => wq
     (try simp only [Act.put, nz1, nz2, nz3])
     refine tk 6 ⟨some 41, .move (.tmp 47), 60, _, _, _⟩ hH ?_
     refine tk 7 ⟨some 48, .extract (.tmp 41) 0, 26, _, _, _⟩ hH ?_
     refine tk 8 ⟨some 49, .extract (.tmp 41) 1, 4, _, _, _⟩ hH ?_
     refine wpAnyH_ready (rs := [10]) (by kernel_rfl) (by simp) ?_
     refine AllReadyH.cons (o := ⟨none, .store 26 (.tmp 8) (.tmp 48), 0, _, _, _⟩) rfl (fun K hK => ?_) AllReadyH.nil
     ((rw [if_pos (by rfl)]); (with_reducible refine pst 26 (.tmp 8) (.tmp 48) ?_ gb 0 #[.int .i64 q.kind, .int .i64 q.len, .int .u64 q.h, .int .u64 q.l, .string ⟨q.path.toArray⟩] ?_ ?_ ?_ ?_ ?_ ?_); rfl; rfl; rfl; (exact Row.thereAt Rb 0 _ (by simp)); (exact infoKe); (simp [Value.oneCell']); (rintro wz hwz); (have hHq := hH); (have c0 := hHq); (replace c0 := pcf hwz c0); (replace Rc := prf hwz Rc); (replace Rr := prf hwz Rr); (replace hb0 := pbl hwz hb0); (replace Rb := psw hwz Rb); clear hwz)
     refine hK.out _ _ ?hSr1_18_10 fun _ => ?_
     case hSr1_18_10 => (exact c0)
     clear hK K hH; rename_i hH
     rename World => wq
     (try simp only [Act.put, nz1, nz2, nz3])
     refine tk 11 ⟨some 9, .assign (.tmp 49), 4, _, _, _⟩ hH ?_
     refine wpAnyH_done (by kernel_rfl) ?_ _
     (go_wp2_with fail; go_meet; exact ⟨gb, rfl, rfl, mb, Rb, Rc, Rr, hb0⟩)
   case rest =>
    clear c0 c1 c2 r0 r1 r2 r3 r4 Rc Rr hb0
    obtain ⟨gb, rfl, rfl, mb, Rb, Rc, Rr, hb0⟩ := hcut
    rename World => w2
    have lc := Rc.lt
    have lr := Rr.lt
    have lb := Rb.lt
    (try clear c0 c1 c2); obtain ⟨c0, c1, c2⟩ := row3 Rc
    (try clear r0 r1 r2 r3 r4); obtain ⟨r0, r1, r2, r3, r4⟩ := row5 Rr
    (try clear b0 b1 b2 b3 b4); obtain ⟨b0, b1, b2, b3, b4⟩ := row5 Rb
    replace hb0 := below_step hbW hb0
    obtain ⟨rf0, rf1, rf2, rf3, rf4⟩ := fz5 Rr
    go_wp2
    obtain ⟨w3, hwk, hwn⟩ := pnm w2 (w.heap.size + 1) 0 [.int .i64 0, .int .i64 0, .int .u64 0, .int .u64 0, .string ⟨#[]⟩]
    simp only [World.setCells] at hwk
    rw [← hwk]; clear hwk
    replace Rr : Row w3 (w.heap.size + 1) #[.int .i64 0, .int .i64 0, .int .u64 0, .int .u64 0, .string ⟨#[]⟩] 26 := psm hwn Rr (by simp [setL])
    replace Rc := prf hwn Rc
    replace Rb := prf hwn Rb
    replace hb0 := pbl hwn hb0
    clear hwn c0 c1 c2 r0 r1 r2 r3 r4 b0 b1 b2 b3 b4
    (try clear rf0 rf1 rf2 rf3 rf4)
    (try clear c0 c1 c2); obtain ⟨c0, c1, c2⟩ := row3 Rc
    (try clear r0 r1 r2 r3 r4); obtain ⟨r0, r1, r2, r3, r4⟩ := row5 Rr
    (try clear b0 b1 b2 b3 b4); obtain ⟨b0, b1, b2, b3, b4⟩ := row5 Rb
    refine bodyPost_ret (v := .tuple #[.int .i64 0, .agg #[.int .i64 0, .int .i64 0, .int .u64 0, .int .u64 0, .string ⟨#[]⟩], .int .i64 3]) (by simp [results, Tryz.results9, go_sem, r0, r1, r2, r3, r4]) rfl ⟨rfl, hb0⟩
end Go.Proofs.YtboinifeemghaaaGreatDoor
