/- TR4, TR5, TR6, TR6b, TR7, TA0, TA: what the theorem needs of these texts. No conditions beyond those that are written. -/
import Derived.Test.YtboinifeemghaaaGreatDoorCTR3b
set_option linter.unusedSimpArgs false
set_option linter.unusedVariables false
set_option maxHeartbeats 3200000
set_option maxRecDepth 100000
namespace Go.Proofs.YtboinifeemghaaaGreatDoor
open Go.RowKit
theorem short_ok {k : Ke} (ok : k.ok) {x : Int} (h0 : 0 ≤ x) (h1 : x ≤ 128) : (shortK k x).ok := by
 obtain ⟨a, b, c, d, e, f, g⟩ := ok
 exact ⟨a, b, c, d, show -9223372036854775808 ≤ x by omega, show x ≤ 9223372036854775807 by omega, g⟩
theorem rppart_t (d : Dm) (t : List UInt8) (hl : t.length ≤ 2000000) (w : World) : Calls Tryz.prog 9 #[dv d, .string ⟨t.toArray⟩] w fun e w' => e = .returned (.tuple #[.int .i64 (ppD d t).1, kv (ppD d t).2.1, .int .i64 (ppD d t).2.2]) ∧ Below w.heap.size w w' := by
 have HR := fun (w' : World) (_ : Below w.heap.size w w') => r8right_t d w'
 cases hd : rightD d with
 | false =>
  simp only [hd] at HR
  rw [ppD_bad hd]
  exact rpp_bad d.kind d.side d.step _ w HR
 | true =>
  simp only [hd] at HR
  have hk := kind_dim hd
  by_cases hm : (47 : UInt8) ∈ t
  ·obtain ⟨a, b, ht, hb⟩ := mem_last t hm
   have e : ppD d t = ppR d a b := by rw [ht]; exact ppD_last hd
   have hla : a.length ≤ 2000000 := by rw [ht] at hl; simp at hl; omega
   have hlb : b.length ≤ 2000000 := by rw [ht] at hl; simp at hl; omega
   rw [e]
   have HI := fun (w' : World) (_ : Below w.heap.size w w') => refIs_t b hlb w'
   have HW := fun (w' : World) (_ : Below w.heap.size w w') => rwhole_t hk a hla w'
   cases hT : txB b with
   | false =>
    simp only [hT] at HI
    rw [ppR_no (fun h => by rw [hT] at h; cases h.2)]
    exact rpp_is d.kind d.side d.step t a b a.length hl ht rfl hb w HR HI
   | true =>
    simp only [hT] at HI
    cases hB : wholeB d.kind a with
    | false =>
     simp only [hB] at HW
     rw [ppR_no (fun h => by rw [hB] at h; cases h.1)]
     exact rpp_wh d.kind d.side d.step t a b a.length (refK d.kind a) hl ht rfl hb w HR HI HW
    | true =>
     simp only [hB] at HW
     rw [refK_eq hB] at HW
     have er : ppR d a b = if onD d (levelD d (valT b)) (keyAt d (levelD d (valT b)) (wholeK d.kind a)) = true then (levelD d (valT b), keyAt d (levelD d (valT b)) (wholeK d.kind a), 0) else (0, kz, 14) := by unfold ppR; rw [if_pos ⟨hB, hT⟩]
     rw [er]
     have okw := wholeK_ok hk (s := a) (by omega)
     have HL := fun (w' : World) (_ : Below w.heap.size w w') => rlens_t d w'
     have hcd := cntD_ok hd
     have hdr := depth_range hd
     have hlen : ∀ (j : Nat) (x : Int), (lensL d)[j]? = some x → j < cntD d ∧ x = lenD d j := fun j x h => by
      have hj : j < cntD d := by
       have := (List.getElem?_eq_some_iff.1 h).1
       unfold lensL at this
       rwa [lensT_len] at this
      refine ⟨hj, ?_⟩
      unfold lensL at h
      rw [lensT_get hj] at h
      exact (Option.some.inj h).symm
     have hpos : ∀ j : Nat, j < cntD d → 0 ≤ lenD d j ∧ lenD d j ≤ 128 := fun j hj => ⟨by rw [lenD_yes hd (by omega) (by omega)]; omega, (lenD_range d j).2⟩
     have HN : ∀ (j : Nat) (x : Int), (lensL d)[j]? = some x → ∀ w', Below w.heap.size w w' → Calls Tryz.prog 32 #[.int .i64 x] w' fun e w'' => e = .returned (.string ⟨(decN x.toNat).toArray⟩) ∧ Below w'.heap.size w' w'' := fun j x h w' _ => by
      obtain ⟨hj, rfl⟩ := hlen j x h
      exact rnum_t _ (hpos j hj).1 (hpos j hj).2 w'
     have hval : ∀ j : Nat, j < cntD d → decN (lenD d j).toNat = b → levelD d (valT b) = j := fun j hj h => by
      have hp := hpos j hj
      rw [← h, valT_dec, Int.toNat_of_nonneg hp.1]
      exact level_len hp.1
     have hN : (lensL d).length = cntD d := by unfold lensL; rw [lensT_len]
     by_cases h3 : d.kind = 3
     ·have ek : ∀ j : Int, keyAt d j (wholeK d.kind a) = wholeK d.kind a := fun j => by unfold keyAt; rw [if_pos h3]
      rw [ek]
      have HO : ∀ (j : Nat) (x : Int), (lensL d)[j]? = some x → ∀ w', Below w.heap.size w w' → Calls Tryz.prog 33 #[dv d, .int .i64 j, kv (wholeK d.kind a)] w' fun e w'' => e = .returned (.bool (onD d j (wholeK d.kind a))) ∧ Below w'.heap.size w' w'' := fun j x h w' _ => r8on_t d j _ okw w'
      have hret : ∀ (j : Nat) (x : Int), (lensL d)[j]? = some x → decN x.toNat = b → onD d j (wholeK d.kind a) = true → (Value.tuple #[.int .i64 (if onD d (levelD d (valT b)) (wholeK d.kind a) = true then (levelD d (valT b), wholeK d.kind a, (0 : Int)) else (0, kz, 14)).1, kv (if onD d (levelD d (valT b)) (wholeK d.kind a) = true then (levelD d (valT b), wholeK d.kind a, (0 : Int)) else (0, kz, 14)).2.1, .int .i64 (if onD d (levelD d (valT b)) (wholeK d.kind a) = true then (levelD d (valT b), wholeK d.kind a, (0 : Int)) else (0, kz, 14)).2.2]) = .tuple #[.int .i64 j, kv (wholeK d.kind a), .int .i64 0] := fun j x h hx ho => by
       obtain ⟨hj, rfl⟩ := hlen j x h
       rw [hval j hj hx, if_pos ho]
      have hend : (∀ (j : Nat) (x : Int), (lensL d)[j]? = some x → decN x.toNat = b → onD d j (wholeK d.kind a) = false) → (Value.tuple #[.int .i64 (if onD d (levelD d (valT b)) (wholeK d.kind a) = true then (levelD d (valT b), wholeK d.kind a, (0 : Int)) else (0, kz, 14)).1, kv (if onD d (levelD d (valT b)) (wholeK d.kind a) = true then (levelD d (valT b), wholeK d.kind a, (0 : Int)) else (0, kz, 14)).2.1, .int .i64 (if onD d (levelD d (valT b)) (wholeK d.kind a) = true then (levelD d (valT b), wholeK d.kind a, (0 : Int)) else (0, kz, 14)).2.2]) = .tuple #[.int .i64 0, kv kz, .int .i64 14] := fun h => by
       have : onD d (levelD d (valT b)) (wholeK d.kind a) = false := by
        rcases levelD_range (d := d) (valT b) with ⟨e1, _⟩ | ⟨k, e1, hk1, e2, _⟩
        ·rw [e1]; exact on_neg d _
        ·rw [e1]
         refine h k (lenD d k) (by unfold lensL; exact lensT_get hk1) ?_
         rw [e2]; exact dec_val hT
       rw [this, if_neg (by decide)]
      generalize (Value.tuple #[.int .i64 (if onD d (levelD d (valT b)) (wholeK d.kind a) = true then (levelD d (valT b), wholeK d.kind a, (0 : Int)) else (0, kz, 14)).1, kv (if onD d (levelD d (valT b)) (wholeK d.kind a) = true then (levelD d (valT b), wholeK d.kind a, (0 : Int)) else (0, kz, 14)).2.1, .int .i64 (if onD d (levelD d (valT b)) (wholeK d.kind a) = true then (levelD d (valT b), wholeK d.kind a, (0 : Int)) else (0, kz, 14)).2.2]) = res at *
      have h0 : 0 < cntD d := by omega
      have h2 : cntD d ≤ 200 := by have := cnt_le d; omega
      generalize lensL d = ls at *
      generalize cntD d = N at *
      generalize hq : wholeK d.kind a = q at *
      generalize hon : (fun j : Nat => onD d j q) = on at *
      have hon' : ∀ j : Nat, onD d j q = on j := fun j => by rw [← hon]
      simp only [hon'] at HO hret hend
      clear er e hval hpos hlen hcd hdr ek hon hon' hq okw
      obtain ⟨kd, sd, st⟩ := d
      dsimp only at h3
      subst h3
      exact rpp_go3 sd st t a b a.length q hl ht rfl hb ls N hN h0 h2 on res w HR HI HW HL HN HO hret hend
     ·have ek : ∀ j : Int, keyAt d j (wholeK d.kind a) = shortK (wholeK d.kind a) (lenD d j) := fun j => by unfold keyAt; rw [if_neg h3]
      rw [ek]
      have HO : ∀ (j : Nat) (x : Int), (lensL d)[j]? = some x → ∀ w', Below w.heap.size w w' → Calls Tryz.prog 33 #[dv d, .int .i64 j, kv (shortK (wholeK d.kind a) x)] w' fun e w'' => e = .returned (.bool (onD d j (shortK (wholeK d.kind a) (lenD d j)))) ∧ Below w'.heap.size w' w'' := fun j x h w' _ => by
       obtain ⟨hj, rfl⟩ := hlen j x h
       exact r8on_t d j _ (short_ok okw (hpos j hj).1 (hpos j hj).2) w'
      have hret : ∀ (j : Nat) (x : Int), (lensL d)[j]? = some x → decN x.toNat = b → onD d j (shortK (wholeK d.kind a) (lenD d j)) = true → (Value.tuple #[.int .i64 (if onD d (levelD d (valT b)) (shortK (wholeK d.kind a) (lenD d (levelD d (valT b)))) = true then (levelD d (valT b), shortK (wholeK d.kind a) (lenD d (levelD d (valT b))), (0 : Int)) else (0, kz, 14)).1, kv (if onD d (levelD d (valT b)) (shortK (wholeK d.kind a) (lenD d (levelD d (valT b)))) = true then (levelD d (valT b), shortK (wholeK d.kind a) (lenD d (levelD d (valT b))), (0 : Int)) else (0, kz, 14)).2.1, .int .i64 (if onD d (levelD d (valT b)) (shortK (wholeK d.kind a) (lenD d (levelD d (valT b)))) = true then (levelD d (valT b), shortK (wholeK d.kind a) (lenD d (levelD d (valT b))), (0 : Int)) else (0, kz, 14)).2.2]) = .tuple #[.int .i64 j, kv (shortK (wholeK d.kind a) x), .int .i64 0] := fun j x h hx ho => by
       obtain ⟨hj, rfl⟩ := hlen j x h
       rw [hval j hj hx, if_pos ho]
      have hend : (∀ (j : Nat) (x : Int), (lensL d)[j]? = some x → decN x.toNat = b → onD d j (shortK (wholeK d.kind a) (lenD d j)) = false) → (Value.tuple #[.int .i64 (if onD d (levelD d (valT b)) (shortK (wholeK d.kind a) (lenD d (levelD d (valT b)))) = true then (levelD d (valT b), shortK (wholeK d.kind a) (lenD d (levelD d (valT b))), (0 : Int)) else (0, kz, 14)).1, kv (if onD d (levelD d (valT b)) (shortK (wholeK d.kind a) (lenD d (levelD d (valT b)))) = true then (levelD d (valT b), shortK (wholeK d.kind a) (lenD d (levelD d (valT b))), (0 : Int)) else (0, kz, 14)).2.1, .int .i64 (if onD d (levelD d (valT b)) (shortK (wholeK d.kind a) (lenD d (levelD d (valT b)))) = true then (levelD d (valT b), shortK (wholeK d.kind a) (lenD d (levelD d (valT b))), (0 : Int)) else (0, kz, 14)).2.2]) = .tuple #[.int .i64 0, kv kz, .int .i64 14] := fun h => by
       have : onD d (levelD d (valT b)) (shortK (wholeK d.kind a) (lenD d (levelD d (valT b)))) = false := by
        rcases levelD_range (d := d) (valT b) with ⟨e1, _⟩ | ⟨k, e1, hk1, e2, _⟩
        ·rw [e1]; exact on_neg d _
        ·rw [e1]
         refine h k (lenD d k) (by unfold lensL; exact lensT_get hk1) ?_
         rw [e2]; exact dec_val hT
       rw [this, if_neg (by decide)]
      generalize (Value.tuple #[.int .i64 (if onD d (levelD d (valT b)) (shortK (wholeK d.kind a) (lenD d (levelD d (valT b)))) = true then (levelD d (valT b), shortK (wholeK d.kind a) (lenD d (levelD d (valT b))), (0 : Int)) else (0, kz, 14)).1, kv (if onD d (levelD d (valT b)) (shortK (wholeK d.kind a) (lenD d (levelD d (valT b)))) = true then (levelD d (valT b), shortK (wholeK d.kind a) (lenD d (levelD d (valT b))), (0 : Int)) else (0, kz, 14)).2.1, .int .i64 (if onD d (levelD d (valT b)) (shortK (wholeK d.kind a) (lenD d (levelD d (valT b)))) = true then (levelD d (valT b), shortK (wholeK d.kind a) (lenD d (levelD d (valT b))), (0 : Int)) else (0, kz, 14)).2.2]) = res at *
      exact rpp_go d.kind d.side d.step h3 t a b a.length (wholeK d.kind a) hl ht rfl hb (lensL d) (cntD d) hN (by omega) (by have := cnt_le d; omega) (fun j => onD d j (shortK (wholeK d.kind a) (lenD d j))) res w HR HI HW HL HN HO hret hend
  ·rw [ppD_none hd hm]
   exact rpp_none d.kind d.side d.step t hl hm w HR
def cntT (t : List UInt8) (i : Nat) : Nat := (t.take i).count 62
def lastT (t : List UInt8) : Nat → Nat
 | 0 => 0
 | i + 1 => if t[i]? = some 62 then i else lastT t i
def s11 : Sp := ⟨2, ⟨1, 1, 8⟩, ⟨3, 2, 3⟩⟩
def p11 : Px := ⟨3, 1, ⟨1, 8, 720575940379279360, 0, []⟩, ⟨3, 2, 0, 0, [110, 101, 116, 46, 100, 99, 49]⟩⟩
theorem right11 : rightP s11 p11 = true := by decide
theorem on11a : onD s11.d0 3 p11.k0 = true := by decide
theorem on11b : onD s11.d1 1 p11.k1 = true := by decide
theorem w11a : wordK p11.k0 = [49, 48, 46, 48, 46, 48, 46, 48] := by decide +kernel
theorem w11b : wordK p11.k1 = [110, 101, 116, 46, 100, 99, 49] := by decide +kernel
theorem l11a : lenD s11.d0 3 = 8 := by decide
theorem l11b : lenD s11.d1 1 = 5 := by decide
theorem d8 : decN (8 : Int).toNat = [56] := by rw [show (8 : Int).toNat = 8 from rfl, decN_small (by omega)]; decide
theorem d5 : decN (5 : Int).toNat = [53] := by rw [show (5 : Int).toNat = 5 from rfl, decN_small (by omega)]; decide
theorem print11 : printS s11 p11 = [49, 48, 46, 48, 46, 48, 46, 48, 47, 56, 62, 110, 101, 116, 46, 100, 99, 49, 47, 53] := by
 unfold printS
 rw [if_pos right11, if_pos (show s11.n = 2 from rfl), partK_on (show onD s11.d0 p11.a0 p11.k0 = true from on11a), partK_on (show onD s11.d1 p11.a1 p11.k1 = true from on11b), w11a, w11b, show lenD s11.d0 p11.a0 = 8 from l11a, show lenD s11.d1 p11.a1 = 5 from l11b, d8, d5]; rfl
theorem read11a : parseS s11 [49, 48, 46, 48, 46, 48, 46, 48, 47, 56, 62, 110, 101, 116, 46, 100, 99, 49, 47, 53] = (p11, 0) := by rw [← print11]; exact print_back right11
theorem w11c : print4 167837696 = [49, 48, 46, 49, 46, 48, 46, 48] := by decide +kernel
theorem rd11 : rightD s11.d0 = true := by decide
theorem sound11 : soundS s11 = true := by decide
theorem part11 : ppD s11.d0 ([49, 48, 46, 49, 46, 48, 46, 48] ++ 47 :: [56]) = (0, kz, 14) := by
 rw [ppD_last rd11]
 have hp : parse4 [49, 48, 46, 49, 46, 48, 46, 48] = (167837696, 0) := by rw [← w11c]; exact parse_print 167837696 (by decide) (by decide)
 have hk : wholeK s11.d0.kind [49, 48, 46, 49, 46, 48, 46, 48] = fourK 167837696 := by
  show fourK (parse4 [49, 48, 46, 49, 46, 48, 46, 48]).1 = _
  rw [hp]
 have hb : wholeB s11.d0.kind [49, 48, 46, 49, 46, 48, 46, 48] = true := by
  show decide ((parse4 [49, 48, 46, 49, 46, 48, 46, 48]).2 = 0) = true
  rw [hp]; rfl
 have hv : ((valT [56] : Nat) : Int) = lenD s11.d0 3 := by decide
 have hl : levelD s11.d0 (valT [56]) = 3 := by rw [hv]; exact level_len (by decide)
 have ho : onD s11.d0 3 (keyAt s11.d0 3 (fourK 167837696)) = false := by decide +kernel
 unfold ppR
 rw [hk, hl, ho, if_pos ⟨hb, by decide⟩, if_neg (by decide)]
theorem read11b : parseS s11 [49, 48, 46, 49, 46, 48, 46, 48, 47, 56, 62, 110, 101, 116, 46, 100, 99, 49, 47, 53] = (pz, 14) := by
 have e : ([49, 48, 46, 49, 46, 48, 46, 48, 47, 56, 62, 110, 101, 116, 46, 100, 99, 49, 47, 53] : List UInt8) = ([49, 48, 46, 49, 46, 48, 46, 48] ++ 47 :: [56]) ++ 62 :: [110, 101, 116, 46, 100, 99, 49, 47, 53] := rfl
 have hc : (([49, 48, 46, 49, 46, 48, 46, 48, 47, 56, 62, 110, 101, 116, 46, 100, 99, 49, 47, 53] : List UInt8).count 62 : Int) = s11.n - 1 := by decide
 unfold parseS
 rw [if_pos sound11, if_pos hc, if_neg (show ¬ s11.n = 1 by decide), e, cut_at 62 _ _ (by decide)]
 unfold parse2
 rw [part11, if_neg (by decide)]
theorem read11c : parseS s11 [49, 48, 46, 48, 46, 48, 46, 48, 47, 56] = (pz, 3) := by
 unfold parseS
 rw [if_pos sound11, if_neg (by decide)]
theorem part11c : ppD dz [49, 48, 46, 48, 46, 48, 46, 48, 47, 56] = (0, kz, 1) := ppD_bad (by decide) _
theorem word11 : wordK (rootK 2) = [58, 58] := by decide +kernel
attribute [local go_sem] Oper.semAt_some
theorem eql_at2 (a b : Int) (w : World) : (binOp .eql 37 (.agg #[.int .i64 a, .int .i64 b]) (.agg #[.int .i64 a, .int .i64 b])).run Tryz.prog w = .ok (.bool true) w := by
 have e := eqIn_at 9998 a b a b
 rw [decide_eq_true ⟨rfl, rfl⟩] at e
 simp [go_sem, e]
theorem root2_ok : (rootK 2).ok := ⟨⟨by decide, by decide⟩, ⟨by decide, by decide⟩, by decide, by decide, by decide, by decide, by decide⟩
theorem p11_ok : p11.ok := ⟨⟨⟨by decide, by decide⟩, ⟨by decide, by decide⟩, by decide, by decide, by decide, by decide, by decide⟩, ⟨⟨by decide, by decide⟩, ⟨by decide, by decide⟩, by decide, by decide, by decide, by decide, by decide⟩, by decide, by decide, by decide, by decide⟩
theorem alive11_go (w : World)
  (H1 : ∀ w', Below w.heap.size w w' → Calls Tryz.prog 17 #[.agg #[.int .i64 2, .int .i64 1, .int .i64 1, .int .i64 8, .int .i64 3, .int .i64 2, .int .i64 3], .string ⟨#[49, 48, 46, 48, 46, 48, 46, 48, 47, 56, 62, 110, 101, 116, 46, 100, 99, 49, 47, 53]⟩] w' fun e w'' => e = .returned (.tuple #[.agg #[.int .i64 3, .int .i64 1, .int .i64 1, .int .i64 8, .int .u64 720575940379279360, .int .u64 0, .string ⟨#[]⟩, .int .i64 3, .int .i64 2, .int .u64 0, .int .u64 0, .string ⟨#[110, 101, 116, 46, 100, 99, 49]⟩], .int .i64 0]) ∧ Below w'.heap.size w' w'')
  (H2 : ∀ w', Below w.heap.size w w' → Calls Tryz.prog 17 #[.agg #[.int .i64 2, .int .i64 1, .int .i64 1, .int .i64 8, .int .i64 3, .int .i64 2, .int .i64 3], .string ⟨#[49, 48, 46, 49, 46, 48, 46, 48, 47, 56, 62, 110, 101, 116, 46, 100, 99, 49, 47, 53]⟩] w' fun e w'' => e = .returned (.tuple #[.agg #[.int .i64 0, .int .i64 0, .int .i64 0, .int .i64 0, .int .u64 0, .int .u64 0, .string ⟨#[]⟩, .int .i64 0, .int .i64 0, .int .u64 0, .int .u64 0, .string ⟨#[]⟩], .int .i64 14]) ∧ Below w'.heap.size w' w'')
  (H3 : ∀ w', Below w.heap.size w w' → Calls Tryz.prog 17 #[.agg #[.int .i64 2, .int .i64 1, .int .i64 1, .int .i64 8, .int .i64 3, .int .i64 2, .int .i64 3], .string ⟨#[49, 48, 46, 48, 46, 48, 46, 48, 47, 56]⟩] w' fun e w'' => e = .returned (.tuple #[.agg #[.int .i64 0, .int .i64 0, .int .i64 0, .int .i64 0, .int .u64 0, .int .u64 0, .string ⟨#[]⟩, .int .i64 0, .int .i64 0, .int .u64 0, .int .u64 0, .string ⟨#[]⟩], .int .i64 3]) ∧ Below w'.heap.size w' w'')
  (H4 : ∀ w', Below w.heap.size w w' → Calls Tryz.prog 8 #[.agg #[.int .i64 0, .int .i64 0, .int .i64 0], .string ⟨#[49, 48, 46, 48, 46, 48, 46, 48, 47, 56]⟩] w' fun e w'' => e = .returned (.tuple #[.int .i64 0, .agg #[.int .i64 0, .int .i64 0, .int .u64 0, .int .u64 0, .string ⟨#[]⟩], .int .i64 1]) ∧ Below w'.heap.size w' w'')
  (H5 : ∀ w', Below w.heap.size w w' → Calls Tryz.prog 15 #[.agg #[.int .i64 2, .int .i64 1, .int .i64 1, .int .i64 8, .int .i64 3, .int .i64 2, .int .i64 3], .agg #[.int .i64 3, .int .i64 1, .int .i64 1, .int .i64 8, .int .u64 720575940379279360, .int .u64 0, .string ⟨#[]⟩, .int .i64 3, .int .i64 2, .int .u64 0, .int .u64 0, .string ⟨#[110, 101, 116, 46, 100, 99, 49]⟩]] w' fun e w'' => e = .returned (.string ⟨#[49, 48, 46, 48, 46, 48, 46, 48, 47, 56, 62, 110, 101, 116, 46, 100, 99, 49, 47, 53]⟩) ∧ Below w'.heap.size w' w'')
  (H6 : ∀ w', Below w.heap.size w w' → Calls Tryz.prog 34 #[.int .i64 2] w' fun e w'' => e = .returned (.agg #[.int .i64 2, .int .i64 0, .int .u64 0, .int .u64 0, .string ⟨#[]⟩]) ∧ Below w'.heap.size w' w'')
  (H7 : ∀ w', Below w.heap.size w w' → Calls Tryz.prog 11 #[.agg #[.int .i64 2, .int .i64 0, .int .u64 0, .int .u64 0, .string ⟨#[]⟩]] w' fun e w'' => e = .returned (.string ⟨#[58, 58]⟩) ∧ Below w'.heap.size w' w'')
  : Calls Tryz.prog 10 #[] w fun e w' => e = .returned (.bool true) ∧ Below w.heap.size w w' := by
 have hb0 := Below.refl w.heap.size w
 have qa := eql_at2 3 1
 go_enter Tryz.func10, Tryz.ntmps10
 go_wp2_with fail
 have Rs := Row.new w #[Value.int .i64 2, Value.int .i64 1, Value.int .i64 1, Value.int .i64 8, Value.int .i64 3, Value.int .i64 2, Value.int .i64 3] 36
 have ms := hb0.size
 replace hb0 := hb0.alloc hb0.size (.cells #[.int .i64 2, .int .i64 1, .int .i64 1, .int .i64 8, .int .i64 3, .int .i64 2, .int .i64 3] 36)
 (try clear s0 s1 s2 s3 s4 s5 s6); obtain ⟨s0, s1, s2, s3, s4, s5, s6⟩ := row7 Rs
 generalize (World.alloc w (.cells #[.int .i64 2, .int .i64 1, .int .i64 1, .int .i64 8, .int .i64 3, .int .i64 2, .int .i64 3] 36)) = w1 at *
 go_wp2_with fail
 refine (H1 _ hb0).mono ?_
 rintro e w2 ⟨rfl, hb⟩
 replace Rs := Rs.later hb
 replace hb0 := below_step hb0 hb
 clear hb
 have ls := Rs.lt
 (try clear s0 s1 s2 s3 s4 s5 s6); obtain ⟨s0, s1, s2, s3, s4, s5, s6⟩ := row7 Rs
 go_wp2_with fail
 refine (H2 _ (hb0.alloc hb0.size _)).mono ?_
 rintro e w3 ⟨rfl, hb⟩
 have nps := Rs.lt
 replace Rs := (Rs.alloc _).later hb
 have Rp := Row.later (Row.new _ _ _) hb
 have mp := hb0.size
 replace hb0 := below_step (hb0.alloc hb0.size _) hb
 clear hb
 generalize w2.heap.size = gp at *
 have ls := Rs.lt
 have lp := Rp.lt
 (try clear s0 s1 s2 s3 s4 s5 s6); obtain ⟨s0, s1, s2, s3, s4, s5, s6⟩ := row7 Rs
 (try clear p0 p1 p2 p3 p4 p5 p6 p7 p8 p9 p10 p11); obtain ⟨p0, p1, p2, p3, p4, p5, p6, p7, p8, p9, p10, p11⟩ := row12 Rp
 go_wp2_with fail
 refine (H3 _ (hb0.alloc hb0.size _)).mono ?_
 rintro e w4 ⟨rfl, hb⟩
 have nfs := Rs.lt
 have nfp := Rp.lt
 replace Rs := (Rs.alloc _).later hb
 replace Rp := (Rp.alloc _).later hb
 have Rf := Row.later (Row.new _ _ _) hb
 have mf := hb0.size
 replace hb0 := below_step (hb0.alloc hb0.size _) hb
 clear hb
 generalize w3.heap.size = gf at *
 have ls := Rs.lt
 have lp := Rp.lt
 have lf := Rf.lt
 (try clear s0 s1 s2 s3 s4 s5 s6); obtain ⟨s0, s1, s2, s3, s4, s5, s6⟩ := row7 Rs
 (try clear p0 p1 p2 p3 p4 p5 p6 p7 p8 p9 p10 p11); obtain ⟨p0, p1, p2, p3, p4, p5, p6, p7, p8, p9, p10, p11⟩ := row12 Rp
 (try clear f0 f1 f2 f3 f4 f5 f6 f7 f8 f9 f10 f11); obtain ⟨f0, f1, f2, f3, f4, f5, f6, f7, f8, f9, f10, f11⟩ := row12 Rf
 go_wp2_with fail
 refine (H4 _ (hb0.alloc hb0.size _)).mono ?_
 rintro e w5 ⟨rfl, hb⟩
 have ngs := Rs.lt
 have ngp := Rp.lt
 have ngf := Rf.lt
 replace Rs := (Rs.alloc _).later hb
 replace Rp := (Rp.alloc _).later hb
 replace Rf := (Rf.alloc _).later hb
 have Rg := Row.later (Row.new _ _ _) hb
 have mg := hb0.size
 replace hb0 := below_step (hb0.alloc hb0.size _) hb
 clear hb
 generalize w4.heap.size = gg at *
 have ls := Rs.lt
 have lp := Rp.lt
 have lf := Rf.lt
 have lg := Rg.lt
 (try clear s0 s1 s2 s3 s4 s5 s6); obtain ⟨s0, s1, s2, s3, s4, s5, s6⟩ := row7 Rs
 (try clear p0 p1 p2 p3 p4 p5 p6 p7 p8 p9 p10 p11); obtain ⟨p0, p1, p2, p3, p4, p5, p6, p7, p8, p9, p10, p11⟩ := row12 Rp
 (try clear f0 f1 f2 f3 f4 f5 f6 f7 f8 f9 f10 f11); obtain ⟨f0, f1, f2, f3, f4, f5, f6, f7, f8, f9, f10, f11⟩ := row12 Rf
 (try clear g0 g1 g2 g3 g4 g5 g6 g7 g8 g9 g10 g11); obtain ⟨g0, g1, g2, g3, g4, g5, g6, g7, g8, g9, g10, g11⟩ := row12 Rg
 clear f0 f1 f2 f3 f4 f5 f6 f7 f8 f9 f10 f11
 clear g0 g1 g2 g3 g4 g5 g6 g7 g8 g9 g10 g11
 go_wp2_with fail
 refine (H5 _ (hb0.alloc hb0.size _)).mono ?_
 rintro e w6 ⟨rfl, hb⟩
 have nxs := Rs.lt
 have nxp := Rp.lt
 have nxf := Rf.lt
 have nxg := Rg.lt
 replace Rs := (Rs.alloc _).later hb
 replace Rp := (Rp.alloc _).later hb
 replace Rf := (Rf.alloc _).later hb
 replace Rg := (Rg.alloc _).later hb
 have Rx := Row.later (Row.new _ _ _) hb
 have mx := hb0.size
 replace hb0 := below_step (hb0.alloc hb0.size _) hb
 clear hb
 generalize w5.heap.size = gx at *
 have ls := Rs.lt
 have lp := Rp.lt
 have lf := Rf.lt
 have lg := Rg.lt
 have lx := Rx.lt
 (try clear s0 s1 s2 s3 s4 s5 s6); obtain ⟨s0, s1, s2, s3, s4, s5, s6⟩ := row7 Rs
 (try clear p0 p1 p2 p3 p4 p5 p6 p7 p8 p9 p10 p11); obtain ⟨p0, p1, p2, p3, p4, p5, p6, p7, p8, p9, p10, p11⟩ := row12 Rp
 (try clear x0 x1 x2 x3 x4); obtain ⟨x0, x1, x2, x3, x4⟩ := row5 Rx
 go_wp2_with fail
 refine (H6 _ hb0).mono ?_
 rintro e w7 ⟨rfl, hb⟩
 replace Rs := Rs.later hb
 replace Rp := Rp.later hb
 replace Rf := Rf.later hb
 replace Rg := Rg.later hb
 replace Rx := Rx.later hb
 replace hb0 := below_step hb0 hb
 clear hb
 have ls := Rs.lt
 have lp := Rp.lt
 have lf := Rf.lt
 have lg := Rg.lt
 have lx := Rx.lt
 (try clear s0 s1 s2 s3 s4 s5 s6); obtain ⟨s0, s1, s2, s3, s4, s5, s6⟩ := row7 Rs
 (try clear p0 p1 p2 p3 p4 p5 p6 p7 p8 p9 p10 p11); obtain ⟨p0, p1, p2, p3, p4, p5, p6, p7, p8, p9, p10, p11⟩ := row12 Rp
 (try clear x0 x1 x2 x3 x4); obtain ⟨x0, x1, x2, x3, x4⟩ := row5 Rx
 go_wp2_with fail
 refine (H7 _ hb0).mono ?_
 rintro e w8 ⟨rfl, hb⟩
 replace Rs := Rs.later hb
 replace Rp := Rp.later hb
 replace Rf := Rf.later hb
 replace Rg := Rg.later hb
 replace Rx := Rx.later hb
 replace hb0 := below_step hb0 hb
 clear hb
 have ls := Rs.lt
 have lp := Rp.lt
 have lf := Rf.lt
 have lg := Rg.lt
 have lx := Rx.lt
 (try clear s0 s1 s2 s3 s4 s5 s6); obtain ⟨s0, s1, s2, s3, s4, s5, s6⟩ := row7 Rs
 (try clear p0 p1 p2 p3 p4 p5 p6 p7 p8 p9 p10 p11); obtain ⟨p0, p1, p2, p3, p4, p5, p6, p7, p8, p9, p10, p11⟩ := row12 Rp
 (try clear x0 x1 x2 x3 x4); obtain ⟨x0, x1, x2, x3, x4⟩ := row5 Rx
 go_wp2
 exact bodyPost_ret (v := .bool true) (by simp [results, Tryz.results10, go_sem]) rfl ⟨rfl, hb0⟩
theorem alive11_t (w : World) (hE : Env6 w) : Calls Tryz.prog 10 #[] w fun e w' => e = .returned (.bool true) ∧ Below w.heap.size w w' := by
 refine alive11_go w ?_ ?_ ?_ ?_ ?_ ?_ ?_
 ·intro w' hb
  have h := tparse_t s11 [49, 48, 46, 48, 46, 48, 46, 48, 47, 56, 62, 110, 101, 116, 46, 100, 99, 49, 47, 53] (by decide) w' (hE.e.later hb)
  rw [read11a] at h
  exact h
 ·intro w' hb
  have h := tparse_t s11 [49, 48, 46, 49, 46, 48, 46, 48, 47, 56, 62, 110, 101, 116, 46, 100, 99, 49, 47, 53] (by decide) w' (hE.e.later hb)
  rw [read11b] at h
  exact h
 ·intro w' hb
  have h := tparse_t s11 [49, 48, 46, 48, 46, 48, 46, 48, 47, 56] (by decide) w' (hE.e.later hb)
  rw [read11c] at h
  exact h
 ·intro w' hb
  have h := ppart_t dz [49, 48, 46, 48, 46, 48, 46, 48, 47, 56] (by decide) w' (hE.e.later hb)
  rw [part11c] at h
  exact h
 ·intro w' hb
  have h := print_t s11 p11 p11_ok w' (hE.later hb)
  rw [print11] at h
  exact h
 ·intro w' _
  exact kroot_t 2 w'
 ·intro w' hb
  have h := word_t (rootK 2) root2_ok w' (hE.later hb)
  rw [word11] at h
  exact h
end Go.Proofs.YtboinifeemghaaaGreatDoor
