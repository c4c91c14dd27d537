/- TR7, TA0, TA: what the theorem needs of these texts. No conditions beyond those that are written. -/
import Derived.Test.YtboinifeemghaaaGreatDoorBJTR4
import Derived.Test.YtboinifeemghaaaGreatDoorBTR6b
set_option linter.unusedSimpArgs false
set_option linter.unusedVariables false
set_option maxHeartbeats 3200000
set_option maxRecDepth 100000
namespace Go.Proofs.YtboinifeemghaaaGreatDoor
open Go.RowKit
theorem cntT_all (t : List UInt8) : cntT t t.length = t.count 62 := by unfold cntT; rw [List.take_length]
theorem rparse11_t (s : Sp) (t : List UInt8) (hl : t.length ≤ 2000000) (w : World) : Calls Tryz.prog 18 #[sv s, .string ⟨t.toArray⟩] w fun e w' => e = .returned (.tuple #[pv (parseS s t).1, .int .i64 (parseS s t).2]) ∧ Below w.heap.size w w' := by
 have HR := fun (w' : World) (_ : Below w.heap.size w w') => rsound_t s w'
 cases hs : soundS s with
 | false =>
  simp only [hs] at HR
  have e : parseS s t = (pz, 1) := by unfold parseS; rw [if_neg (by rw [hs]; decide)]
  rw [e]
  exact rps_bad s _ w HR
 | true =>
  simp only [hs] at HR
  obtain ⟨hd0, _, hd⟩ := sound_dims hs
  have hps : parseS s t = if (t.count 62 : Int) = s.n - 1 then (if s.n = 1 then parse1 s t else parse2 s (Lib.cut t [62]).1 (Lib.cut t [62]).2.1) else (pz, 3) := by unfold parseS; rw [if_pos hs]
  rw [hps]
  clear hps
  obtain ⟨n, d0, d1⟩ := s
  rcases hd with ⟨hn, _⟩ | ⟨hn, _⟩
  ·dsimp only at hn
   subst hn
   by_cases hc : t.count 62 = 0
   ·rw [if_pos (by rw [hc]; rfl), if_pos rfl]
    have HT : ((cntT t t.length : Nat) : Int) = 0 := by rw [cntT_all, hc]; rfl
    have HP := fun (w' : World) (_ : Below w.heap.size w w') => rppart_t d0 t hl w'
    unfold parse1
    by_cases h0 : (ppD d0 t).2.2 = 0
    ·rw [if_pos h0]
     simp only [h0] at HP
     exact rps_1o ⟨1, d0, d1⟩ t hl _ _ w HT HR HP
    ·rw [if_neg h0]
     exact rps_1e ⟨1, d0, d1⟩ t hl _ _ _ h0 w HT HR HP
   ·rw [if_neg (show ¬ ((t.count 62 : Nat) : Int) = 1 - 1 by omega)]
    exact rps_no1 ⟨1, d0, d1⟩ t hl _ (show ¬ ((t.count 62 : Nat) : Int) = 0 by omega) w (by rw [cntT_all]) HR
  ·dsimp only at hn
   subst hn
   by_cases hc : t.count 62 = 1
   ·rw [if_pos (by rw [hc]; rfl), if_neg (show ¬ (2 : Int) = 1 by decide)]
    have HT : ((cntT t t.length : Nat) : Int) = 1 := by rw [cntT_all, hc]; rfl
    obtain ⟨a, b, ht, ha, hb⟩ := count_one hc
    have ec : Lib.cut t [62] = Lib.cut (a ++ 62 :: b) [62] := by rw [ht]
    rw [ec, cut_at 62 a b ha]
    dsimp only
    have hla : a.length ≤ 2000000 := by rw [ht, List.length_append, List.length_cons] at hl; omega
    have hlb : b.length ≤ 2000000 := by rw [ht, List.length_append, List.length_cons] at hl; omega
    have HP := fun (w' : World) (_ : Below w.heap.size w w') => rppart_t d0 a hla w'
    have HQ := fun (w' : World) (_ : Below w.heap.size w w') => rppart_t d1 b hlb w'
    unfold parse2
    dsimp only
    by_cases h0 : (ppD d0 a).2.2 = 0
    ·rw [if_pos h0]
     simp only [h0] at HP
     by_cases h1 : (ppD d1 b).2.2 = 0
     ·rw [if_pos h1]
      simp only [h1] at HQ
      exact rps_2oo ⟨2, d0, d1⟩ t a b _ hl ht rfl hb _ _ _ _ w HT HR HP HQ
     ·rw [if_neg h1]
      exact rps_2oe ⟨2, d0, d1⟩ t a b _ hl ht rfl hb _ _ _ _ _ h1 w HT HR HP HQ
    ·rw [if_neg h0]
     exact rps_2e ⟨2, d0, d1⟩ t a b _ hl ht rfl hb _ _ _ h0 w HT HR HP
   ·rw [if_neg (show ¬ ((t.count 62 : Nat) : Int) = 2 - 1 by omega)]
    exact rps_no2 ⟨2, d0, d1⟩ t hl _ (show ¬ ((t.count 62 : Nat) : Int) = 1 by omega) w (by rw [cntT_all]) HR
def s11 : Sp := ⟨2, ⟨1, 1, 8⟩, ⟨3, 2, 3⟩⟩
def p11 : Px := ⟨3, 1, ⟨1, 8, 720575940379279360, 0, []⟩, ⟨3, 2, 0, 0, [110, 101, 116, 46, 100, 99, 49]⟩⟩
theorem right11 : rightP s11 p11 = true := by decide
theorem on11a : onD s11.d0 3 p11.k0 = true := by decide
theorem on11b : onD s11.d1 1 p11.k1 = true := by decide
theorem w11a : wordK p11.k0 = [49, 48, 46, 48, 46, 48, 46, 48] := by decide +kernel
theorem w11b : wordK p11.k1 = [110, 101, 116, 46, 100, 99, 49] := by decide +kernel
theorem l11a : lenD s11.d0 3 = 8 := by decide
theorem l11b : lenD s11.d1 1 = 5 := by decide
theorem d8 : decN (8 : Int).toNat = [56] := by rw [show (8 : Int).toNat = 8 from rfl, decN_small (by omega)]; decide
theorem d5 : decN (5 : Int).toNat = [53] := by rw [show (5 : Int).toNat = 5 from rfl, decN_small (by omega)]; decide
theorem print11 : printS s11 p11 = [49, 48, 46, 48, 46, 48, 46, 48, 47, 56, 62, 110, 101, 116, 46, 100, 99, 49, 47, 53] := by
 unfold printS
 rw [if_pos right11, if_pos (show s11.n = 2 from rfl), partK_on (show onD s11.d0 p11.a0 p11.k0 = true from on11a), partK_on (show onD s11.d1 p11.a1 p11.k1 = true from on11b), w11a, w11b, show lenD s11.d0 p11.a0 = 8 from l11a, show lenD s11.d1 p11.a1 = 5 from l11b, d8, d5]; rfl
theorem read11a : parseS s11 [49, 48, 46, 48, 46, 48, 46, 48, 47, 56, 62, 110, 101, 116, 46, 100, 99, 49, 47, 53] = (p11, 0) := by rw [← print11]; exact print_back right11
theorem w11c : print4 167837696 = [49, 48, 46, 49, 46, 48, 46, 48] := by decide +kernel
theorem rd11 : rightD s11.d0 = true := by decide
theorem sound11 : soundS s11 = true := by decide
theorem part11 : ppD s11.d0 ([49, 48, 46, 49, 46, 48, 46, 48] ++ 47 :: [56]) = (0, kz, 14) := by
 rw [ppD_last rd11]
 have hp : parse4 [49, 48, 46, 49, 46, 48, 46, 48] = (167837696, 0) := by rw [← w11c]; exact parse_print 167837696 (by decide) (by decide)
 have hk : wholeK s11.d0.kind [49, 48, 46, 49, 46, 48, 46, 48] = fourK 167837696 := by
  show fourK (parse4 [49, 48, 46, 49, 46, 48, 46, 48]).1 = _
  rw [hp]
 have hb : wholeB s11.d0.kind [49, 48, 46, 49, 46, 48, 46, 48] = true := by
  show decide ((parse4 [49, 48, 46, 49, 46, 48, 46, 48]).2 = 0) = true
  rw [hp]; rfl
 have hv : ((valT [56] : Nat) : Int) = lenD s11.d0 3 := by decide
 have hl : levelD s11.d0 (valT [56]) = 3 := by rw [hv]; exact level_len (by decide)
 have ho : onD s11.d0 3 (keyAt s11.d0 3 (fourK 167837696)) = false := by decide +kernel
 unfold ppR
 rw [hk, hl, ho, if_pos ⟨hb, by decide⟩, if_neg (by decide)]
theorem read11b : parseS s11 [49, 48, 46, 49, 46, 48, 46, 48, 47, 56, 62, 110, 101, 116, 46, 100, 99, 49, 47, 53] = (pz, 14) := by
 have e : ([49, 48, 46, 49, 46, 48, 46, 48, 47, 56, 62, 110, 101, 116, 46, 100, 99, 49, 47, 53] : List UInt8) = ([49, 48, 46, 49, 46, 48, 46, 48] ++ 47 :: [56]) ++ 62 :: [110, 101, 116, 46, 100, 99, 49, 47, 53] := rfl
 have hc : (([49, 48, 46, 49, 46, 48, 46, 48, 47, 56, 62, 110, 101, 116, 46, 100, 99, 49, 47, 53] : List UInt8).count 62 : Int) = s11.n - 1 := by decide
 unfold parseS
 rw [if_pos sound11, if_pos hc, if_neg (show ¬ s11.n = 1 by decide), e, cut_at 62 _ _ (by decide)]
 unfold parse2
 rw [part11, if_neg (by decide)]
theorem read11c : parseS s11 [49, 48, 46, 48, 46, 48, 46, 48, 47, 56] = (pz, 3) := by
 unfold parseS
 rw [if_pos sound11, if_neg (by decide)]
theorem part11c : ppD dz [49, 48, 46, 48, 46, 48, 46, 48, 47, 56] = (0, kz, 1) := ppD_bad (by decide) _
theorem word11 : wordK (rootK 2) = [58, 58] := by decide +kernel
attribute [local go_sem] Oper.semAt_some
theorem eql_at2 (a b : Int) (w : World) : (binOp .eql 37 (.agg #[.int .i64 a, .int .i64 b]) (.agg #[.int .i64 a, .int .i64 b])).run Tryz.prog w = .ok (.bool true) w := by
 have e := eqIn_at 9998 a b a b
 rw [decide_eq_true ⟨rfl, rfl⟩] at e
 simp [go_sem, e]
theorem root2_ok : (rootK 2).ok := ⟨⟨by decide, by decide⟩, ⟨by decide, by decide⟩, by decide, by decide, by decide, by decide, by decide⟩
theorem p11_ok : p11.ok := ⟨⟨⟨by decide, by decide⟩, ⟨by decide, by decide⟩, by decide, by decide, by decide, by decide, by decide⟩, ⟨⟨by decide, by decide⟩, ⟨by decide, by decide⟩, by decide, by decide, by decide, by decide, by decide⟩, by decide, by decide, by decide, by decide⟩
theorem alive11_go (w : World)
  (H1 : ∀ w', Below w.heap.size w w' → Calls Tryz.prog 17 #[.agg #[.int .i64 2, .int .i64 1, .int .i64 1, .int .i64 8, .int .i64 3, .int .i64 2, .int .i64 3], .string ⟨#[49, 48, 46, 48, 46, 48, 46, 48, 47, 56, 62, 110, 101, 116, 46, 100, 99, 49, 47, 53]⟩] w' fun e w'' => e = .returned (.tuple #[.agg #[.int .i64 3, .int .i64 1, .int .i64 1, .int .i64 8, .int .u64 720575940379279360, .int .u64 0, .string ⟨#[]⟩, .int .i64 3, .int .i64 2, .int .u64 0, .int .u64 0, .string ⟨#[110, 101, 116, 46, 100, 99, 49]⟩], .int .i64 0]) ∧ Below w'.heap.size w' w'')
  (H2 : ∀ w', Below w.heap.size w w' → Calls Tryz.prog 17 #[.agg #[.int .i64 2, .int .i64 1, .int .i64 1, .int .i64 8, .int .i64 3, .int .i64 2, .int .i64 3], .string ⟨#[49, 48, 46, 49, 46, 48, 46, 48, 47, 56, 62, 110, 101, 116, 46, 100, 99, 49, 47, 53]⟩] w' fun e w'' => e = .returned (.tuple #[.agg #[.int .i64 0, .int .i64 0, .int .i64 0, .int .i64 0, .int .u64 0, .int .u64 0, .string ⟨#[]⟩, .int .i64 0, .int .i64 0, .int .u64 0, .int .u64 0, .string ⟨#[]⟩], .int .i64 14]) ∧ Below w'.heap.size w' w'')
  (H3 : ∀ w', Below w.heap.size w w' → Calls Tryz.prog 17 #[.agg #[.int .i64 2, .int .i64 1, .int .i64 1, .int .i64 8, .int .i64 3, .int .i64 2, .int .i64 3], .string ⟨#[49, 48, 46, 48, 46, 48, 46, 48, 47, 56]⟩] w' fun e w'' => e = .returned (.tuple #[.agg #[.int .i64 0, .int .i64 0, .int .i64 0, .int .i64 0, .int .u64 0, .int .u64 0, .string ⟨#[]⟩, .int .i64 0, .int .i64 0, .int .u64 0, .int .u64 0, .string ⟨#[]⟩], .int .i64 3]) ∧ Below w'.heap.size w' w'')
  (H4 : ∀ w', Below w.heap.size w w' → Calls Tryz.prog 8 #[.agg #[.int .i64 0, .int .i64 0, .int .i64 0], .string ⟨#[49, 48, 46, 48, 46, 48, 46, 48, 47, 56]⟩] w' fun e w'' => e = .returned (.tuple #[.int .i64 0, .agg #[.int .i64 0, .int .i64 0, .int .u64 0, .int .u64 0, .string ⟨#[]⟩], .int .i64 1]) ∧ Below w'.heap.size w' w'')
  (H5 : ∀ w', Below w.heap.size w w' → Calls Tryz.prog 15 #[.agg #[.int .i64 2, .int .i64 1, .int .i64 1, .int .i64 8, .int .i64 3, .int .i64 2, .int .i64 3], .agg #[.int .i64 3, .int .i64 1, .int .i64 1, .int .i64 8, .int .u64 720575940379279360, .int .u64 0, .string ⟨#[]⟩, .int .i64 3, .int .i64 2, .int .u64 0, .int .u64 0, .string ⟨#[110, 101, 116, 46, 100, 99, 49]⟩]] w' fun e w'' => e = .returned (.string ⟨#[49, 48, 46, 48, 46, 48, 46, 48, 47, 56, 62, 110, 101, 116, 46, 100, 99, 49, 47, 53]⟩) ∧ Below w'.heap.size w' w'')
  (H6 : ∀ w', Below w.heap.size w w' → Calls Tryz.prog 34 #[.int .i64 2] w' fun e w'' => e = .returned (.agg #[.int .i64 2, .int .i64 0, .int .u64 0, .int .u64 0, .string ⟨#[]⟩]) ∧ Below w'.heap.size w' w'')
  (H7 : ∀ w', Below w.heap.size w w' → Calls Tryz.prog 11 #[.agg #[.int .i64 2, .int .i64 0, .int .u64 0, .int .u64 0, .string ⟨#[]⟩]] w' fun e w'' => e = .returned (.string ⟨#[58, 58]⟩) ∧ Below w'.heap.size w' w'')
  : Calls Tryz.prog 10 #[] w fun e w' => e = .returned (.bool true) ∧ Below w.heap.size w w' := by
 have hb0 := Below.refl w.heap.size w
 have qa := eql_at2 3 1
 go_enter Tryz.func10, Tryz.ntmps10
 go_wp2_with fail
 have Rs := Row.new w #[Value.int .i64 2, Value.int .i64 1, Value.int .i64 1, Value.int .i64 8, Value.int .i64 3, Value.int .i64 2, Value.int .i64 3] 36
 have ms := hb0.size
 replace hb0 := hb0.alloc hb0.size (.cells #[.int .i64 2, .int .i64 1, .int .i64 1, .int .i64 8, .int .i64 3, .int .i64 2, .int .i64 3] 36)
 (try clear s0 s1 s2 s3 s4 s5 s6); obtain ⟨s0, s1, s2, s3, s4, s5, s6⟩ := row7 Rs
 generalize (World.alloc w (.cells #[.int .i64 2, .int .i64 1, .int .i64 1, .int .i64 8, .int .i64 3, .int .i64 2, .int .i64 3] 36)) = w1 at *
 go_wp2_with fail
 refine (H1 _ hb0).mono ?_
 rintro e w2 ⟨rfl, hb⟩
 replace Rs := Rs.later hb
 replace hb0 := below_step hb0 hb
 clear hb
 have ls := Rs.lt
 (try clear s0 s1 s2 s3 s4 s5 s6); obtain ⟨s0, s1, s2, s3, s4, s5, s6⟩ := row7 Rs
 go_wp2_with fail
 refine (H2 _ (hb0.alloc hb0.size _)).mono ?_
 rintro e w3 ⟨rfl, hb⟩
 have nps := Rs.lt
 replace Rs := (Rs.alloc _).later hb
 have Rp := Row.later (Row.new _ _ _) hb
 have mp := hb0.size
 replace hb0 := below_step (hb0.alloc hb0.size _) hb
 clear hb
 generalize w2.heap.size = gp at *
 have ls := Rs.lt
 have lp := Rp.lt
 (try clear s0 s1 s2 s3 s4 s5 s6); obtain ⟨s0, s1, s2, s3, s4, s5, s6⟩ := row7 Rs
 (try clear p0 p1 p2 p3 p4 p5 p6 p7 p8 p9 p10 p11); obtain ⟨p0, p1, p2, p3, p4, p5, p6, p7, p8, p9, p10, p11⟩ := row12 Rp
 go_wp2_with fail
 refine (H3 _ (hb0.alloc hb0.size _)).mono ?_
 rintro e w4 ⟨rfl, hb⟩
 have nfs := Rs.lt
 have nfp := Rp.lt
 replace Rs := (Rs.alloc _).later hb
 replace Rp := (Rp.alloc _).later hb
 have Rf := Row.later (Row.new _ _ _) hb
 have mf := hb0.size
 replace hb0 := below_step (hb0.alloc hb0.size _) hb
 clear hb
 generalize w3.heap.size = gf at *
 have ls := Rs.lt
 have lp := Rp.lt
 have lf := Rf.lt
 (try clear s0 s1 s2 s3 s4 s5 s6); obtain ⟨s0, s1, s2, s3, s4, s5, s6⟩ := row7 Rs
 (try clear p0 p1 p2 p3 p4 p5 p6 p7 p8 p9 p10 p11); obtain ⟨p0, p1, p2, p3, p4, p5, p6, p7, p8, p9, p10, p11⟩ := row12 Rp
 (try clear f0 f1 f2 f3 f4 f5 f6 f7 f8 f9 f10 f11); obtain ⟨f0, f1, f2, f3, f4, f5, f6, f7, f8, f9, f10, f11⟩ := row12 Rf
 go_wp2_with fail
 refine (H4 _ (hb0.alloc hb0.size _)).mono ?_
 rintro e w5 ⟨rfl, hb⟩
 have ngs := Rs.lt
 have ngp := Rp.lt
 have ngf := Rf.lt
 replace Rs := (Rs.alloc _).later hb
 replace Rp := (Rp.alloc _).later hb
 replace Rf := (Rf.alloc _).later hb
 have Rg := Row.later (Row.new _ _ _) hb
 have mg := hb0.size
 replace hb0 := below_step (hb0.alloc hb0.size _) hb
 clear hb
 generalize w4.heap.size = gg at *
 have ls := Rs.lt
 have lp := Rp.lt
 have lf := Rf.lt
 have lg := Rg.lt
 (try clear s0 s1 s2 s3 s4 s5 s6); obtain ⟨s0, s1, s2, s3, s4, s5, s6⟩ := row7 Rs
 (try clear p0 p1 p2 p3 p4 p5 p6 p7 p8 p9 p10 p11); obtain ⟨p0, p1, p2, p3, p4, p5, p6, p7, p8, p9, p10, p11⟩ := row12 Rp
 (try clear f0 f1 f2 f3 f4 f5 f6 f7 f8 f9 f10 f11); obtain ⟨f0, f1, f2, f3, f4, f5, f6, f7, f8, f9, f10, f11⟩ := row12 Rf
 (try clear g0 g1 g2 g3 g4 g5 g6 g7 g8 g9 g10 g11); obtain ⟨g0, g1, g2, g3, g4, g5, g6, g7, g8, g9, g10, g11⟩ := row12 Rg
 clear f0 f1 f2 f3 f4 f5 f6 f7 f8 f9 f10 f11
 clear g0 g1 g2 g3 g4 g5 g6 g7 g8 g9 g10 g11
 go_wp2_with fail
 refine (H5 _ (hb0.alloc hb0.size _)).mono ?_
 rintro e w6 ⟨rfl, hb⟩
 have nxs := Rs.lt
 have nxp := Rp.lt
 have nxf := Rf.lt
 have nxg := Rg.lt
 replace Rs := (Rs.alloc _).later hb
 replace Rp := (Rp.alloc _).later hb
 replace Rf := (Rf.alloc _).later hb
 replace Rg := (Rg.alloc _).later hb
 have Rx := Row.later (Row.new _ _ _) hb
 have mx := hb0.size
 replace hb0 := below_step (hb0.alloc hb0.size _) hb
 clear hb
 generalize w5.heap.size = gx at *
 have ls := Rs.lt
 have lp := Rp.lt
 have lf := Rf.lt
 have lg := Rg.lt
 have lx := Rx.lt
 (try clear s0 s1 s2 s3 s4 s5 s6); obtain ⟨s0, s1, s2, s3, s4, s5, s6⟩ := row7 Rs
 (try clear p0 p1 p2 p3 p4 p5 p6 p7 p8 p9 p10 p11); obtain ⟨p0, p1, p2, p3, p4, p5, p6, p7, p8, p9, p10, p11⟩ := row12 Rp
 (try clear x0 x1 x2 x3 x4); obtain ⟨x0, x1, x2, x3, x4⟩ := row5 Rx
 go_wp2_with fail
 refine (H6 _ hb0).mono ?_
 rintro e w7 ⟨rfl, hb⟩
 replace Rs := Rs.later hb
 replace Rp := Rp.later hb
 replace Rf := Rf.later hb
 replace Rg := Rg.later hb
 replace Rx := Rx.later hb
 replace hb0 := below_step hb0 hb
 clear hb
 have ls := Rs.lt
 have lp := Rp.lt
 have lf := Rf.lt
 have lg := Rg.lt
 have lx := Rx.lt
 (try clear s0 s1 s2 s3 s4 s5 s6); obtain ⟨s0, s1, s2, s3, s4, s5, s6⟩ := row7 Rs
 (try clear p0 p1 p2 p3 p4 p5 p6 p7 p8 p9 p10 p11); obtain ⟨p0, p1, p2, p3, p4, p5, p6, p7, p8, p9, p10, p11⟩ := row12 Rp
 (try clear x0 x1 x2 x3 x4); obtain ⟨x0, x1, x2, x3, x4⟩ := row5 Rx
 go_wp2_with fail
 refine (H7 _ hb0).mono ?_
 rintro e w8 ⟨rfl, hb⟩
 replace Rs := Rs.later hb
 replace Rp := Rp.later hb
 replace Rf := Rf.later hb
 replace Rg := Rg.later hb
 replace Rx := Rx.later hb
 replace hb0 := below_step hb0 hb
 clear hb
 have ls := Rs.lt
 have lp := Rp.lt
 have lf := Rf.lt
 have lg := Rg.lt
 have lx := Rx.lt
 (try clear s0 s1 s2 s3 s4 s5 s6); obtain ⟨s0, s1, s2, s3, s4, s5, s6⟩ := row7 Rs
 (try clear p0 p1 p2 p3 p4 p5 p6 p7 p8 p9 p10 p11); obtain ⟨p0, p1, p2, p3, p4, p5, p6, p7, p8, p9, p10, p11⟩ := row12 Rp
 (try clear x0 x1 x2 x3 x4); obtain ⟨x0, x1, x2, x3, x4⟩ := row5 Rx
 go_wp2
 exact bodyPost_ret (v := .bool true) (by simp [results, Tryz.results10, go_sem]) rfl ⟨rfl, hb0⟩
theorem alive11_t (w : World) (hE : Env6 w) : Calls Tryz.prog 10 #[] w fun e w' => e = .returned (.bool true) ∧ Below w.heap.size w w' := by
 refine alive11_go w ?_ ?_ ?_ ?_ ?_ ?_ ?_
 ·intro w' hb
  have h := tparse_t s11 [49, 48, 46, 48, 46, 48, 46, 48, 47, 56, 62, 110, 101, 116, 46, 100, 99, 49, 47, 53] (by decide) w' (hE.e.later hb)
  rw [read11a] at h
  exact h
 ·intro w' hb
  have h := tparse_t s11 [49, 48, 46, 49, 46, 48, 46, 48, 47, 56, 62, 110, 101, 116, 46, 100, 99, 49, 47, 53] (by decide) w' (hE.e.later hb)
  rw [read11b] at h
  exact h
 ·intro w' hb
  have h := tparse_t s11 [49, 48, 46, 48, 46, 48, 46, 48, 47, 56] (by decide) w' (hE.e.later hb)
  rw [read11c] at h
  exact h
 ·intro w' hb
  have h := ppart_t dz [49, 48, 46, 48, 46, 48, 46, 48, 47, 56] (by decide) w' (hE.e.later hb)
  rw [part11c] at h
  exact h
 ·intro w' hb
  have h := print_t s11 p11 p11_ok w' (hE.later hb)
  rw [print11] at h
  exact h
 ·intro w' _
  exact kroot_t 2 w'
 ·intro w' hb
  have h := word_t (rootK 2) root2_ok w' (hE.later hb)
  rw [word11] at h
  exact h
end Go.Proofs.YtboinifeemghaaaGreatDoor
