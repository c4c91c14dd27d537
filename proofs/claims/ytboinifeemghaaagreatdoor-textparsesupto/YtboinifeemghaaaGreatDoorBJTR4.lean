/- TR4, TR5: what the theorem needs of these texts. No conditions beyond those that are written. -/
import Derived.Test.YtboinifeemghaaaGreatDoorBTR3b
set_option linter.unusedSimpArgs false
set_option linter.unusedVariables false
namespace Go.Proofs.YtboinifeemghaaaGreatDoor
open Go.RowKit
theorem short_ok {k : Ke} (ok : k.ok) {x : Int} (h0 : 0 ≤ x) (h1 : x ≤ 128) : (shortK k x).ok := by
 obtain ⟨a, b, c, d, e, f, g⟩ := ok
 exact ⟨a, b, c, d, show -9223372036854775808 ≤ x by omega, show x ≤ 9223372036854775807 by omega, g⟩
theorem rppart_t (d : Dm) (t : List UInt8) (hl : t.length ≤ 2000000) (w : World) : Calls Tryz.prog 9 #[dv d, .string ⟨t.toArray⟩] w fun e w' => e = .returned (.tuple #[.int .i64 (ppD d t).1, kv (ppD d t).2.1, .int .i64 (ppD d t).2.2]) ∧ Below w.heap.size w w' := by
 have HR := fun (w' : World) (_ : Below w.heap.size w w') => r8right_t d w'
 cases hd : rightD d with
 | false =>
  simp only [hd] at HR
  rw [ppD_bad hd]
  exact rpp_bad d.kind d.side d.step _ w HR
 | true =>
  simp only [hd] at HR
  have hk := kind_dim hd
  by_cases hm : (47 : UInt8) ∈ t
  ·obtain ⟨a, b, ht, hb⟩ := mem_last t hm
   have e : ppD d t = ppR d a b := by rw [ht]; exact ppD_last hd
   have hla : a.length ≤ 2000000 := by rw [ht] at hl; simp at hl; omega
   have hlb : b.length ≤ 2000000 := by rw [ht] at hl; simp at hl; omega
   rw [e]
   have HI := fun (w' : World) (_ : Below w.heap.size w w') => refIs_t b hlb w'
   have HW := fun (w' : World) (_ : Below w.heap.size w w') => rwhole_t hk a hla w'
   cases hT : txB b with
   | false =>
    simp only [hT] at HI
    rw [ppR_no (fun h => by rw [hT] at h; cases h.2)]
    exact rpp_is d.kind d.side d.step t a b a.length hl ht rfl hb w HR HI
   | true =>
    simp only [hT] at HI
    cases hB : wholeB d.kind a with
    | false =>
     simp only [hB] at HW
     rw [ppR_no (fun h => by rw [hB] at h; cases h.1)]
     exact rpp_wh d.kind d.side d.step t a b a.length (refK d.kind a) hl ht rfl hb w HR HI HW
    | true =>
     simp only [hB] at HW
     rw [refK_eq hB] at HW
     have er : ppR d a b = if onD d (levelD d (valT b)) (keyAt d (levelD d (valT b)) (wholeK d.kind a)) = true then (levelD d (valT b), keyAt d (levelD d (valT b)) (wholeK d.kind a), 0) else (0, kz, 14) := by unfold ppR; rw [if_pos ⟨hB, hT⟩]
     rw [er]
     have okw := wholeK_ok hk (s := a) (by omega)
     have HL := fun (w' : World) (_ : Below w.heap.size w w') => rlens_t d w'
     have hcd := cntD_ok hd
     have hdr := depth_range hd
     have hlen : ∀ (j : Nat) (x : Int), (lensL d)[j]? = some x → j < cntD d ∧ x = lenD d j := fun j x h => by
      have hj : j < cntD d := by
       have := (List.getElem?_eq_some_iff.1 h).1
       unfold lensL at this
       rwa [lensT_len] at this
      refine ⟨hj, ?_⟩
      unfold lensL at h
      rw [lensT_get hj] at h
      exact (Option.some.inj h).symm
     have hpos : ∀ j : Nat, j < cntD d → 0 ≤ lenD d j ∧ lenD d j ≤ 128 := fun j hj => ⟨by rw [lenD_yes hd (by omega) (by omega)]; omega, (lenD_range d j).2⟩
     have HN : ∀ (j : Nat) (x : Int), (lensL d)[j]? = some x → ∀ w', Below w.heap.size w w' → Calls Tryz.prog 32 #[.int .i64 x] w' fun e w'' => e = .returned (.string ⟨(decN x.toNat).toArray⟩) ∧ Below w'.heap.size w' w'' := fun j x h w' _ => by
      obtain ⟨hj, rfl⟩ := hlen j x h
      exact rnum_t _ (hpos j hj).1 (hpos j hj).2 w'
     have hval : ∀ j : Nat, j < cntD d → decN (lenD d j).toNat = b → levelD d (valT b) = j := fun j hj h => by
      have hp := hpos j hj
      rw [← h, valT_dec, Int.toNat_of_nonneg hp.1]
      exact level_len hp.1
     have hN : (lensL d).length = cntD d := by unfold lensL; rw [lensT_len]
     by_cases h3 : d.kind = 3
     ·have ek : ∀ j : Int, keyAt d j (wholeK d.kind a) = wholeK d.kind a := fun j => by unfold keyAt; rw [if_pos h3]
      rw [ek]
      have HO : ∀ (j : Nat) (x : Int), (lensL d)[j]? = some x → ∀ w', Below w.heap.size w w' → Calls Tryz.prog 33 #[dv d, .int .i64 j, kv (wholeK d.kind a)] w' fun e w'' => e = .returned (.bool (onD d j (wholeK d.kind a))) ∧ Below w'.heap.size w' w'' := fun j x h w' _ => r8on_t d j _ okw w'
      have hret : ∀ (j : Nat) (x : Int), (lensL d)[j]? = some x → decN x.toNat = b → onD d j (wholeK d.kind a) = true → (Value.tuple #[.int .i64 (if onD d (levelD d (valT b)) (wholeK d.kind a) = true then (levelD d (valT b), wholeK d.kind a, (0 : Int)) else (0, kz, 14)).1, kv (if onD d (levelD d (valT b)) (wholeK d.kind a) = true then (levelD d (valT b), wholeK d.kind a, (0 : Int)) else (0, kz, 14)).2.1, .int .i64 (if onD d (levelD d (valT b)) (wholeK d.kind a) = true then (levelD d (valT b), wholeK d.kind a, (0 : Int)) else (0, kz, 14)).2.2]) = .tuple #[.int .i64 j, kv (wholeK d.kind a), .int .i64 0] := fun j x h hx ho => by
       obtain ⟨hj, rfl⟩ := hlen j x h
       rw [hval j hj hx, if_pos ho]
      have hend : (∀ (j : Nat) (x : Int), (lensL d)[j]? = some x → decN x.toNat = b → onD d j (wholeK d.kind a) = false) → (Value.tuple #[.int .i64 (if onD d (levelD d (valT b)) (wholeK d.kind a) = true then (levelD d (valT b), wholeK d.kind a, (0 : Int)) else (0, kz, 14)).1, kv (if onD d (levelD d (valT b)) (wholeK d.kind a) = true then (levelD d (valT b), wholeK d.kind a, (0 : Int)) else (0, kz, 14)).2.1, .int .i64 (if onD d (levelD d (valT b)) (wholeK d.kind a) = true then (levelD d (valT b), wholeK d.kind a, (0 : Int)) else (0, kz, 14)).2.2]) = .tuple #[.int .i64 0, kv kz, .int .i64 14] := fun h => by
       have : onD d (levelD d (valT b)) (wholeK d.kind a) = false := by
        rcases levelD_range (d := d) (valT b) with ⟨e1, _⟩ | ⟨k, e1, hk1, e2, _⟩
        ·rw [e1]; exact on_neg d _
        ·rw [e1]
         refine h k (lenD d k) (by unfold lensL; exact lensT_get hk1) ?_
         rw [e2]; exact dec_val hT
       rw [this, if_neg (by decide)]
      generalize (Value.tuple #[.int .i64 (if onD d (levelD d (valT b)) (wholeK d.kind a) = true then (levelD d (valT b), wholeK d.kind a, (0 : Int)) else (0, kz, 14)).1, kv (if onD d (levelD d (valT b)) (wholeK d.kind a) = true then (levelD d (valT b), wholeK d.kind a, (0 : Int)) else (0, kz, 14)).2.1, .int .i64 (if onD d (levelD d (valT b)) (wholeK d.kind a) = true then (levelD d (valT b), wholeK d.kind a, (0 : Int)) else (0, kz, 14)).2.2]) = res at *
      have h0 : 0 < cntD d := by omega
      have h2 : cntD d ≤ 200 := by have := cnt_le d; omega
      generalize lensL d = ls at *
      generalize cntD d = N at *
      generalize hq : wholeK d.kind a = q at *
      generalize hon : (fun j : Nat => onD d j q) = on at *
      have hon' : ∀ j : Nat, onD d j q = on j := fun j => by rw [← hon]
      simp only [hon'] at HO hret hend
      clear er e hval hpos hlen hcd hdr ek hon hon' hq okw
      obtain ⟨kd, sd, st⟩ := d
      dsimp only at h3
      subst h3
      exact rpp_go3 sd st t a b a.length q hl ht rfl hb ls N hN h0 h2 on res w HR HI HW HL HN HO hret hend
     ·have ek : ∀ j : Int, keyAt d j (wholeK d.kind a) = shortK (wholeK d.kind a) (lenD d j) := fun j => by unfold keyAt; rw [if_neg h3]
      rw [ek]
      have HO : ∀ (j : Nat) (x : Int), (lensL d)[j]? = some x → ∀ w', Below w.heap.size w w' → Calls Tryz.prog 33 #[dv d, .int .i64 j, kv (shortK (wholeK d.kind a) x)] w' fun e w'' => e = .returned (.bool (onD d j (shortK (wholeK d.kind a) (lenD d j)))) ∧ Below w'.heap.size w' w'' := fun j x h w' _ => by
       obtain ⟨hj, rfl⟩ := hlen j x h
       exact r8on_t d j _ (short_ok okw (hpos j hj).1 (hpos j hj).2) w'
      have hret : ∀ (j : Nat) (x : Int), (lensL d)[j]? = some x → decN x.toNat = b → onD d j (shortK (wholeK d.kind a) (lenD d j)) = true → (Value.tuple #[.int .i64 (if onD d (levelD d (valT b)) (shortK (wholeK d.kind a) (lenD d (levelD d (valT b)))) = true then (levelD d (valT b), shortK (wholeK d.kind a) (lenD d (levelD d (valT b))), (0 : Int)) else (0, kz, 14)).1, kv (if onD d (levelD d (valT b)) (shortK (wholeK d.kind a) (lenD d (levelD d (valT b)))) = true then (levelD d (valT b), shortK (wholeK d.kind a) (lenD d (levelD d (valT b))), (0 : Int)) else (0, kz, 14)).2.1, .int .i64 (if onD d (levelD d (valT b)) (shortK (wholeK d.kind a) (lenD d (levelD d (valT b)))) = true then (levelD d (valT b), shortK (wholeK d.kind a) (lenD d (levelD d (valT b))), (0 : Int)) else (0, kz, 14)).2.2]) = .tuple #[.int .i64 j, kv (shortK (wholeK d.kind a) x), .int .i64 0] := fun j x h hx ho => by
       obtain ⟨hj, rfl⟩ := hlen j x h
       rw [hval j hj hx, if_pos ho]
      have hend : (∀ (j : Nat) (x : Int), (lensL d)[j]? = some x → decN x.toNat = b → onD d j (shortK (wholeK d.kind a) (lenD d j)) = false) → (Value.tuple #[.int .i64 (if onD d (levelD d (valT b)) (shortK (wholeK d.kind a) (lenD d (levelD d (valT b)))) = true then (levelD d (valT b), shortK (wholeK d.kind a) (lenD d (levelD d (valT b))), (0 : Int)) else (0, kz, 14)).1, kv (if onD d (levelD d (valT b)) (shortK (wholeK d.kind a) (lenD d (levelD d (valT b)))) = true then (levelD d (valT b), shortK (wholeK d.kind a) (lenD d (levelD d (valT b))), (0 : Int)) else (0, kz, 14)).2.1, .int .i64 (if onD d (levelD d (valT b)) (shortK (wholeK d.kind a) (lenD d (levelD d (valT b)))) = true then (levelD d (valT b), shortK (wholeK d.kind a) (lenD d (levelD d (valT b))), (0 : Int)) else (0, kz, 14)).2.2]) = .tuple #[.int .i64 0, kv kz, .int .i64 14] := fun h => by
       have : onD d (levelD d (valT b)) (shortK (wholeK d.kind a) (lenD d (levelD d (valT b)))) = false := by
        rcases levelD_range (d := d) (valT b) with ⟨e1, _⟩ | ⟨k, e1, hk1, e2, _⟩
        ·rw [e1]; exact on_neg d _
        ·rw [e1]
         refine h k (lenD d k) (by unfold lensL; exact lensT_get hk1) ?_
         rw [e2]; exact dec_val hT
       rw [this, if_neg (by decide)]
      generalize (Value.tuple #[.int .i64 (if onD d (levelD d (valT b)) (shortK (wholeK d.kind a) (lenD d (levelD d (valT b)))) = true then (levelD d (valT b), shortK (wholeK d.kind a) (lenD d (levelD d (valT b))), (0 : Int)) else (0, kz, 14)).1, kv (if onD d (levelD d (valT b)) (shortK (wholeK d.kind a) (lenD d (levelD d (valT b)))) = true then (levelD d (valT b), shortK (wholeK d.kind a) (lenD d (levelD d (valT b))), (0 : Int)) else (0, kz, 14)).2.1, .int .i64 (if onD d (levelD d (valT b)) (shortK (wholeK d.kind a) (lenD d (levelD d (valT b)))) = true then (levelD d (valT b), shortK (wholeK d.kind a) (lenD d (levelD d (valT b))), (0 : Int)) else (0, kz, 14)).2.2]) = res at *
      exact rpp_go d.kind d.side d.step h3 t a b a.length (wholeK d.kind a) hl ht rfl hb (lensL d) (cntD d) hN (by omega) (by have := cnt_le d; omega) (fun j => onD d j (shortK (wholeK d.kind a) (lenD d j))) res w HR HI HW HL HN HO hret hend
  ·rw [ppD_none hd hm]
   exact rpp_none d.kind d.side d.step t hl hm w HR
end Go.Proofs.YtboinifeemghaaaGreatDoor
