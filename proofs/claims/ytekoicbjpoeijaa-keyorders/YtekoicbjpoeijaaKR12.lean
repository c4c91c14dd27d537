/- Meet and Cmp of the reference of layer 7. No conditions beyond ranges and lengths. -/
import Derived.Test.YtekoicbjpoeijaaKR11
import Derived.Test.YtekoicbjpoeijaaKP3
namespace Go.Proofs.Ytekoicbjpoeijaa
set_option linter.unusedVariables false
set_option linter.unusedSimpArgs false
open Go.RowKit
theorem rmeet_t (a b : Ke) (ha : a.ok) (hb' : b.ok) (w : World) : Calls Try.prog 29 #[kv a, kv b] w fun e w' => e = .returned (.tuple #[kv (meetK a b), .bool (meetB a b)]) ∧ Below w.heap.size w w' := by
  cases hm : meetB a b with
  | false => have h := rmeet_bad a b ha hb' hm w; rw [hm] at h; exact h
  | true =>
    have h2 := hm
    unfold meetB at h2
    simp only [Bool.and_eq_true, decide_eq_true_eq] at h2
    have h := rmeet_go a b ha hb' h2.2.1 h2.2.2 h2.1 w
    rw [hm] at h; exact h
theorem bless_asymm : ∀ (a b : List UInt8), a ≠ b → Op.bytesLess a b = false → Op.bytesLess b a = true
  | [], [], h, _ => absurd rfl h
  | [], _ :: _, _, h => by simp [Op.bytesLess] at h
  | _ :: _, [], _, _ => rfl
  | c :: a, d :: b, hne, h => by
    simp only [Op.bytesLess, Bool.or_eq_false_iff, decide_eq_false_iff_not, Bool.and_eq_false_iff, beq_eq_false_iff_ne] at h
    simp only [Op.bytesLess, Bool.or_eq_true, decide_eq_true_eq, Bool.and_eq_true, beq_iff_eq]
    obtain ⟨h1, h2⟩ := h
    by_cases e : c = d
    · subst e
      right
      refine ⟨rfl, bless_asymm a b (fun x => hne (by rw [x])) ?_⟩
      rcases h2 with h2 | h2
      · exact absurd rfl h2
      · exact h2
    · left
      rw [UInt8.lt_iff_toNat_lt] at h1 ⊢
      have : c.toNat ≠ d.toNat := fun x => e (UInt8.toNat_inj.1 x)
      omega
theorem cmpS_neg {a b : List UInt8} (h : Op.bytesLess a b = true) : cmpS a b = -1 := by unfold cmpS; rw [if_pos h]
theorem cmpS_pos {a b : List UInt8} (h : Op.bytesLess a b = false) (hne : ¬ a = b) : cmpS a b = 1 := by unfold cmpS; rw [if_neg (by simp [h]), if_neg hne]
theorem cmpI_gt {a b : Int} (h : b < a) : cmpI a b = 1 := by unfold cmpI; rw [if_neg (by omega), if_neg (by omega)]
theorem fnz_here {x : Int} (r : List Int) (h : x ≠ 0) : fnz (x :: r) = x := by rw [fnz, if_neg h]
theorem fnz_next {x : Int} (r : List Int) (h : x = 0) : fnz (x :: r) = fnz r := by rw [fnz, if_pos h]
/-- how two keys may stand, and what Cmp says of it -/
theorem cmp_cases (ak an ah al : Int) (ap : List UInt8) (bk bn bh bl : Int) (bp : List UInt8) (h1 : Word ah) (h2 : Word al) (h3 : Word bh) (h4 : Word bl) (r : Int) (hr : r = cmpK ⟨ak, an, ah, al, ap⟩ ⟨bk, bn, bh, bl, bp⟩) :
    (ak < bk ∧ r = -1) ∨ (bk < ak ∧ r = 1) ∨ (ak = bk ∧ ah < bh ∧ r = -1) ∨ (ak = bk ∧ bh < ah ∧ r = 1) ∨ (ak = bk ∧ ah = bh ∧ al < bl ∧ r = -1) ∨ (ak = bk ∧ ah = bh ∧ bl < al ∧ r = 1) ∨
    (ak = bk ∧ ah = bh ∧ al = bl ∧ Op.bytesLess ap bp = true ∧ ¬ ap = bp ∧ r = -1) ∨ (ak = bk ∧ ah = bh ∧ al = bl ∧ Op.bytesLess ap bp = false ∧ ¬ ap = bp ∧ r = 1) ∨
    (ak = bk ∧ ah = bh ∧ al = bl ∧ ap = bp ∧ an < bn ∧ r = -1) ∨ (ak = bk ∧ ah = bh ∧ al = bl ∧ ap = bp ∧ bn < an ∧ r = 1) ∨ (ak = bk ∧ ah = bh ∧ al = bl ∧ ap = bp ∧ an = bn ∧ r = 0) := by
  have hn := cmp_pure ah al bh bl h1 h2 h3 h4
  unfold cmpK Ke.num at hr
  dsimp only at hr
  rcases Int.lt_trichotomy ak bk with k | k | k
  · rw [cmpI_lt k, fnz_here _ (by decide)] at hr; exact .inl ⟨k, hr⟩
  · subst k
    rw [cmpI_self, fnz_next _ rfl, hn] at hr
    rcases Int.lt_trichotomy ah bh with x | x | x
    · rw [if_neg (by omega), if_pos x, fnz_here _ (by decide)] at hr; exact .inr (.inr (.inl ⟨rfl, x, hr⟩))
    · subst x
      rw [if_pos rfl] at hr
      rcases Int.lt_trichotomy al bl with y | y | y
      · rw [if_neg (by omega), if_pos y, fnz_here _ (by decide)] at hr; exact .inr (.inr (.inr (.inr (.inl ⟨rfl, rfl, y, hr⟩))))
      · subst y
        rw [if_pos rfl, fnz_next _ rfl] at hr
        by_cases p : ap = bp
        · subst p
          rw [cmpS_self, fnz_next _ rfl] at hr
          rcases Int.lt_trichotomy an bn with z | z | z
          · rw [cmpI_lt z, fnz_here _ (by decide)] at hr; exact .inr (.inr (.inr (.inr (.inr (.inr (.inr (.inr (.inl ⟨rfl, rfl, rfl, rfl, z, hr⟩))))))))
          · subst z
            rw [cmpI_self, fnz_next _ rfl] at hr; exact .inr (.inr (.inr (.inr (.inr (.inr (.inr (.inr (.inr (.inr ⟨rfl, rfl, rfl, rfl, rfl, hr⟩)))))))))
          · rw [cmpI_gt z, fnz_here _ (by decide)] at hr; exact .inr (.inr (.inr (.inr (.inr (.inr (.inr (.inr (.inr (.inl ⟨rfl, rfl, rfl, rfl, z, hr⟩)))))))))
        · cases q : Op.bytesLess ap bp with
          | true => rw [cmpS_neg q, fnz_here _ (by decide)] at hr; exact .inr (.inr (.inr (.inr (.inr (.inr (.inl ⟨rfl, rfl, rfl, rfl, p, hr⟩))))))
          | false => rw [cmpS_pos q p, fnz_here _ (by decide)] at hr; exact .inr (.inr (.inr (.inr (.inr (.inr (.inr (.inl ⟨rfl, rfl, rfl, rfl, p, hr⟩)))))))
      · rw [if_neg (by omega), if_neg (by omega), fnz_here _ (by decide)] at hr; exact .inr (.inr (.inr (.inr (.inr (.inl ⟨rfl, rfl, y, hr⟩)))))
    · rw [if_neg (by omega), if_neg (by omega), fnz_here _ (by decide)] at hr; exact .inr (.inr (.inr (.inl ⟨rfl, x, hr⟩)))
  · rw [cmpI_gt k, fnz_here _ (by decide)] at hr; exact .inr (.inl ⟨k, hr⟩)
theorem ba_toList (x y : List UInt8) : ((⟨x.toArray⟩ : ByteArray).toList == (⟨y.toArray⟩ : ByteArray).toList) = decide (x = y) := by
  rw [bytes_list, bytes_list]
  by_cases h : x = y
  · rw [decide_eq_true h, h]; simp
  · rw [decide_eq_false h]; simpa using h
theorem eqK_no {a0 a1 a2 a3 : Int} {a4 : ByteArray} {b0 b1 b2 b3 : Int} {b4 : ByteArray} (h : ¬ (a0 = b0 ∧ a1 = b1 ∧ a2 = b2 ∧ a3 = b3 ∧ a4 = b4)) : eqK a0 a1 a2 a3 a4 b0 b1 b2 b3 b4 = false := by unfold eqK; exact decide_eq_false h
set_option maxRecDepth 100000 in
set_option maxHeartbeats 16000000 in
theorem rcmp_t (a b : Ke) (ha : a.ok) (hb' : b.ok) (w : World) : Calls Try.prog 37 #[kv a, kv b] w fun e w' => e = .returned (.int .i64 (cmpK a b)) ∧ Below w.heap.size w w' := by
  have h1 := ha.h; have h2 := ha.l; have h3 := hb'.h; have h4 := hb'.l
  clear ha hb'
  obtain ⟨ak, an, ah, al, ap⟩ := a
  obtain ⟨bk, bn, bh, bl, bp⟩ := b
  dsimp only at *
  have hc := cmp_cases ak an ah al ap bk bn bh bl bp h1 h2 h3 h4 _ rfl
  generalize cmpK ⟨ak, an, ah, al, ap⟩ ⟨bk, bn, bh, bl, bp⟩ = r at *
  clear h1 h2 h3 h4
  unfold kv
  dsimp only
  have q := eql_key
  have hA : ∀ l : List UInt8, (⟨l.toArray⟩ : ByteArray).toList = l := bytes_list
  have hne : ¬ ap = bp → ¬ (⟨ap.toArray⟩ : ByteArray) = ⟨bp.toArray⟩ := fun h e => h ((str_eq _ _).1 e)
  have hbe := ba_toList ap bp
  have ea := bytes_list ap
  have eb := bytes_list bp
  rw [← ea, ← eb] at hc
  have hpe : (⟨ap.toArray⟩ : ByteArray).toList = (⟨bp.toArray⟩ : ByteArray).toList → (⟨ap.toArray⟩ : ByteArray) = ⟨bp.toArray⟩ := fun h => by rw [ea, eb] at h; rw [h]
  clear hA hne ea eb hbe
  generalize (⟨ap.toArray⟩ : ByteArray) = pa at *
  generalize (⟨bp.toArray⟩ : ByteArray) = pb at *
  have hpn : ¬ pa.toList = pb.toList → ¬ pa = pb := fun h e => h (by rw [e])
  rcases hc with ⟨x, rfl⟩ | ⟨x, rfl⟩ | ⟨rfl, x, rfl⟩ | ⟨rfl, x, rfl⟩ | ⟨rfl, rfl, x, rfl⟩ | ⟨rfl, rfl, x, rfl⟩ | ⟨rfl, rfl, rfl, x, y, rfl⟩ | ⟨rfl, rfl, rfl, x, y, rfl⟩ | ⟨rfl, rfl, rfl, x, y, rfl⟩ | ⟨rfl, rfl, rfl, x, y, rfl⟩ | ⟨rfl, rfl, rfl, x, rfl, rfl⟩
  ·   have he := eqK_no (a0 := ak) (a1 := an) (a2 := ah) (a3 := al) (a4 := pa) (b0 := bk) (b1 := bn) (b2 := bh) (b3 := bl) (b4 := pb) (by rintro ⟨e0, e1, e2, e3, e4⟩; omega)
      clear hpe hpn
      go_enter Try.func37, Try.ntmps37
      go_wp2
      go_ret
      exact ⟨rfl, (by repeat (first | exact Below.refl _ _ | assumption | (with_reducible refine Below.setCell ?_ ?h _; case h => first | omega | (simp; done) | (simp; omega)) | (with_reducible refine Below.alloc ?_ ?h _; case h => first | omega | (simp; done) | (simp; omega)) | (with_reducible refine Below.drew ?_) | (with_reducible refine Below.trans ?_ (hb4.mono ?h); case h => first | omega | (simp; done) | (simp; omega)) | (with_reducible refine Below.trans ?_ (hb3.mono ?h); case h => first | omega | (simp; done) | (simp; omega)) | (with_reducible refine Below.trans ?_ (hb2.mono ?h); case h => first | omega | (simp; done) | (simp; omega)) | (with_reducible refine Below.trans ?_ (hb.mono ?h); case h => first | omega | (simp; done) | (simp; omega)) | (with_reducible refine Below.trans ?_ (hb0.mono ?h); case h => first | omega | (simp; done) | (simp; omega))))⟩
  ·   have he := eqK_no (a0 := ak) (a1 := an) (a2 := ah) (a3 := al) (a4 := pa) (b0 := bk) (b1 := bn) (b2 := bh) (b3 := bl) (b4 := pb) (by rintro ⟨e0, e1, e2, e3, e4⟩; omega)
      clear hpe hpn
      go_enter Try.func37, Try.ntmps37
      go_wp2
      go_ret
      exact ⟨rfl, (by repeat (first | exact Below.refl _ _ | assumption | (with_reducible refine Below.setCell ?_ ?h _; case h => first | omega | (simp; done) | (simp; omega)) | (with_reducible refine Below.alloc ?_ ?h _; case h => first | omega | (simp; done) | (simp; omega)) | (with_reducible refine Below.drew ?_) | (with_reducible refine Below.trans ?_ (hb4.mono ?h); case h => first | omega | (simp; done) | (simp; omega)) | (with_reducible refine Below.trans ?_ (hb3.mono ?h); case h => first | omega | (simp; done) | (simp; omega)) | (with_reducible refine Below.trans ?_ (hb2.mono ?h); case h => first | omega | (simp; done) | (simp; omega)) | (with_reducible refine Below.trans ?_ (hb.mono ?h); case h => first | omega | (simp; done) | (simp; omega)) | (with_reducible refine Below.trans ?_ (hb0.mono ?h); case h => first | omega | (simp; done) | (simp; omega))))⟩
  ·   have he := eqK_no (a0 := ak) (a1 := an) (a2 := ah) (a3 := al) (a4 := pa) (b0 := ak) (b1 := bn) (b2 := bh) (b3 := bl) (b4 := pb) (by rintro ⟨e0, e1, e2, e3, e4⟩; omega)
      clear hpe hpn
      go_enter Try.func37, Try.ntmps37
      go_wp2
      go_ret
      exact ⟨rfl, (by repeat (first | exact Below.refl _ _ | assumption | (with_reducible refine Below.setCell ?_ ?h _; case h => first | omega | (simp; done) | (simp; omega)) | (with_reducible refine Below.alloc ?_ ?h _; case h => first | omega | (simp; done) | (simp; omega)) | (with_reducible refine Below.drew ?_) | (with_reducible refine Below.trans ?_ (hb4.mono ?h); case h => first | omega | (simp; done) | (simp; omega)) | (with_reducible refine Below.trans ?_ (hb3.mono ?h); case h => first | omega | (simp; done) | (simp; omega)) | (with_reducible refine Below.trans ?_ (hb2.mono ?h); case h => first | omega | (simp; done) | (simp; omega)) | (with_reducible refine Below.trans ?_ (hb.mono ?h); case h => first | omega | (simp; done) | (simp; omega)) | (with_reducible refine Below.trans ?_ (hb0.mono ?h); case h => first | omega | (simp; done) | (simp; omega))))⟩
  ·   have he := eqK_no (a0 := ak) (a1 := an) (a2 := ah) (a3 := al) (a4 := pa) (b0 := ak) (b1 := bn) (b2 := bh) (b3 := bl) (b4 := pb) (by rintro ⟨e0, e1, e2, e3, e4⟩; omega)
      clear hpe hpn
      go_enter Try.func37, Try.ntmps37
      go_wp2
      go_ret
      exact ⟨rfl, (by repeat (first | exact Below.refl _ _ | assumption | (with_reducible refine Below.setCell ?_ ?h _; case h => first | omega | (simp; done) | (simp; omega)) | (with_reducible refine Below.alloc ?_ ?h _; case h => first | omega | (simp; done) | (simp; omega)) | (with_reducible refine Below.drew ?_) | (with_reducible refine Below.trans ?_ (hb4.mono ?h); case h => first | omega | (simp; done) | (simp; omega)) | (with_reducible refine Below.trans ?_ (hb3.mono ?h); case h => first | omega | (simp; done) | (simp; omega)) | (with_reducible refine Below.trans ?_ (hb2.mono ?h); case h => first | omega | (simp; done) | (simp; omega)) | (with_reducible refine Below.trans ?_ (hb.mono ?h); case h => first | omega | (simp; done) | (simp; omega)) | (with_reducible refine Below.trans ?_ (hb0.mono ?h); case h => first | omega | (simp; done) | (simp; omega))))⟩
  ·   have he := eqK_no (a0 := ak) (a1 := an) (a2 := ah) (a3 := al) (a4 := pa) (b0 := ak) (b1 := bn) (b2 := ah) (b3 := bl) (b4 := pb) (by rintro ⟨e0, e1, e2, e3, e4⟩; omega)
      clear hpe hpn
      go_enter Try.func37, Try.ntmps37
      go_wp2
      go_ret
      exact ⟨rfl, (by repeat (first | exact Below.refl _ _ | assumption | (with_reducible refine Below.setCell ?_ ?h _; case h => first | omega | (simp; done) | (simp; omega)) | (with_reducible refine Below.alloc ?_ ?h _; case h => first | omega | (simp; done) | (simp; omega)) | (with_reducible refine Below.drew ?_) | (with_reducible refine Below.trans ?_ (hb4.mono ?h); case h => first | omega | (simp; done) | (simp; omega)) | (with_reducible refine Below.trans ?_ (hb3.mono ?h); case h => first | omega | (simp; done) | (simp; omega)) | (with_reducible refine Below.trans ?_ (hb2.mono ?h); case h => first | omega | (simp; done) | (simp; omega)) | (with_reducible refine Below.trans ?_ (hb.mono ?h); case h => first | omega | (simp; done) | (simp; omega)) | (with_reducible refine Below.trans ?_ (hb0.mono ?h); case h => first | omega | (simp; done) | (simp; omega))))⟩
  ·   have he := eqK_no (a0 := ak) (a1 := an) (a2 := ah) (a3 := al) (a4 := pa) (b0 := ak) (b1 := bn) (b2 := ah) (b3 := bl) (b4 := pb) (by rintro ⟨e0, e1, e2, e3, e4⟩; omega)
      clear hpe hpn
      go_enter Try.func37, Try.ntmps37
      go_wp2
      go_ret
      exact ⟨rfl, (by repeat (first | exact Below.refl _ _ | assumption | (with_reducible refine Below.setCell ?_ ?h _; case h => first | omega | (simp; done) | (simp; omega)) | (with_reducible refine Below.alloc ?_ ?h _; case h => first | omega | (simp; done) | (simp; omega)) | (with_reducible refine Below.drew ?_) | (with_reducible refine Below.trans ?_ (hb4.mono ?h); case h => first | omega | (simp; done) | (simp; omega)) | (with_reducible refine Below.trans ?_ (hb3.mono ?h); case h => first | omega | (simp; done) | (simp; omega)) | (with_reducible refine Below.trans ?_ (hb2.mono ?h); case h => first | omega | (simp; done) | (simp; omega)) | (with_reducible refine Below.trans ?_ (hb.mono ?h); case h => first | omega | (simp; done) | (simp; omega)) | (with_reducible refine Below.trans ?_ (hb0.mono ?h); case h => first | omega | (simp; done) | (simp; omega))))⟩
  ·   have he := eqK_no (a0 := ak) (a1 := an) (a2 := ah) (a3 := al) (a4 := pa) (b0 := ak) (b1 := bn) (b2 := ah) (b3 := al) (b4 := pb) (by rintro ⟨e0, e1, e2, e3, e4⟩; exact hpn y e4)
      have y2 : (pa.toList == pb.toList) = false := by simpa using y
      clear hpe hpn y
      go_enter Try.func37, Try.ntmps37
      go_wp2
      go_ret
      exact ⟨rfl, (by repeat (first | exact Below.refl _ _ | assumption | (with_reducible refine Below.setCell ?_ ?h _; case h => first | omega | (simp; done) | (simp; omega)) | (with_reducible refine Below.alloc ?_ ?h _; case h => first | omega | (simp; done) | (simp; omega)) | (with_reducible refine Below.drew ?_) | (with_reducible refine Below.trans ?_ (hb4.mono ?h); case h => first | omega | (simp; done) | (simp; omega)) | (with_reducible refine Below.trans ?_ (hb3.mono ?h); case h => first | omega | (simp; done) | (simp; omega)) | (with_reducible refine Below.trans ?_ (hb2.mono ?h); case h => first | omega | (simp; done) | (simp; omega)) | (with_reducible refine Below.trans ?_ (hb.mono ?h); case h => first | omega | (simp; done) | (simp; omega)) | (with_reducible refine Below.trans ?_ (hb0.mono ?h); case h => first | omega | (simp; done) | (simp; omega))))⟩
  ·   have he := eqK_no (a0 := ak) (a1 := an) (a2 := ah) (a3 := al) (a4 := pa) (b0 := ak) (b1 := bn) (b2 := ah) (b3 := al) (b4 := pb) (by rintro ⟨e0, e1, e2, e3, e4⟩; exact hpn y e4)
      have y2 : (pa.toList == pb.toList) = false := by simpa using y
      clear hpe hpn y
      go_enter Try.func37, Try.ntmps37
      go_wp2
      go_ret
      exact ⟨rfl, (by repeat (first | exact Below.refl _ _ | assumption | (with_reducible refine Below.setCell ?_ ?h _; case h => first | omega | (simp; done) | (simp; omega)) | (with_reducible refine Below.alloc ?_ ?h _; case h => first | omega | (simp; done) | (simp; omega)) | (with_reducible refine Below.drew ?_) | (with_reducible refine Below.trans ?_ (hb4.mono ?h); case h => first | omega | (simp; done) | (simp; omega)) | (with_reducible refine Below.trans ?_ (hb3.mono ?h); case h => first | omega | (simp; done) | (simp; omega)) | (with_reducible refine Below.trans ?_ (hb2.mono ?h); case h => first | omega | (simp; done) | (simp; omega)) | (with_reducible refine Below.trans ?_ (hb.mono ?h); case h => first | omega | (simp; done) | (simp; omega)) | (with_reducible refine Below.trans ?_ (hb0.mono ?h); case h => first | omega | (simp; done) | (simp; omega))))⟩
  ·   obtain rfl := hpe x
      have he := eqK_no (a0 := ak) (a1 := an) (a2 := ah) (a3 := al) (a4 := pa) (b0 := ak) (b1 := bn) (b2 := ah) (b3 := al) (b4 := pa) (by rintro ⟨e0, e1, e2, e3, e4⟩; omega)
      have y2 := bless_self pa.toList
      clear hpe hpn x
      go_enter Try.func37, Try.ntmps37
      go_wp2
      go_ret
      exact ⟨rfl, (by repeat (first | exact Below.refl _ _ | assumption | (with_reducible refine Below.setCell ?_ ?h _; case h => first | omega | (simp; done) | (simp; omega)) | (with_reducible refine Below.alloc ?_ ?h _; case h => first | omega | (simp; done) | (simp; omega)) | (with_reducible refine Below.drew ?_) | (with_reducible refine Below.trans ?_ (hb4.mono ?h); case h => first | omega | (simp; done) | (simp; omega)) | (with_reducible refine Below.trans ?_ (hb3.mono ?h); case h => first | omega | (simp; done) | (simp; omega)) | (with_reducible refine Below.trans ?_ (hb2.mono ?h); case h => first | omega | (simp; done) | (simp; omega)) | (with_reducible refine Below.trans ?_ (hb.mono ?h); case h => first | omega | (simp; done) | (simp; omega)) | (with_reducible refine Below.trans ?_ (hb0.mono ?h); case h => first | omega | (simp; done) | (simp; omega))))⟩
  ·   obtain rfl := hpe x
      have he := eqK_no (a0 := ak) (a1 := an) (a2 := ah) (a3 := al) (a4 := pa) (b0 := ak) (b1 := bn) (b2 := ah) (b3 := al) (b4 := pa) (by rintro ⟨e0, e1, e2, e3, e4⟩; omega)
      have y2 := bless_self pa.toList
      clear hpe hpn x
      go_enter Try.func37, Try.ntmps37
      go_wp2
      go_ret
      exact ⟨rfl, (by repeat (first | exact Below.refl _ _ | assumption | (with_reducible refine Below.setCell ?_ ?h _; case h => first | omega | (simp; done) | (simp; omega)) | (with_reducible refine Below.alloc ?_ ?h _; case h => first | omega | (simp; done) | (simp; omega)) | (with_reducible refine Below.drew ?_) | (with_reducible refine Below.trans ?_ (hb4.mono ?h); case h => first | omega | (simp; done) | (simp; omega)) | (with_reducible refine Below.trans ?_ (hb3.mono ?h); case h => first | omega | (simp; done) | (simp; omega)) | (with_reducible refine Below.trans ?_ (hb2.mono ?h); case h => first | omega | (simp; done) | (simp; omega)) | (with_reducible refine Below.trans ?_ (hb.mono ?h); case h => first | omega | (simp; done) | (simp; omega)) | (with_reducible refine Below.trans ?_ (hb0.mono ?h); case h => first | omega | (simp; done) | (simp; omega))))⟩
  · obtain rfl := hpe x
    have he := eqK_self ak an ah al pa
    clear hpe hpn x
    go_enter Try.func37, Try.ntmps37
    go_wp2
    go_ret
    exact ⟨rfl, (by repeat (first | exact Below.refl _ _ | assumption | (with_reducible refine Below.setCell ?_ ?h _; case h => first | omega | (simp; done) | (simp; omega)) | (with_reducible refine Below.alloc ?_ ?h _; case h => first | omega | (simp; done) | (simp; omega)) | (with_reducible refine Below.drew ?_) | (with_reducible refine Below.trans ?_ (hb4.mono ?h); case h => first | omega | (simp; done) | (simp; omega)) | (with_reducible refine Below.trans ?_ (hb3.mono ?h); case h => first | omega | (simp; done) | (simp; omega)) | (with_reducible refine Below.trans ?_ (hb2.mono ?h); case h => first | omega | (simp; done) | (simp; omega)) | (with_reducible refine Below.trans ?_ (hb.mono ?h); case h => first | omega | (simp; done) | (simp; omega)) | (with_reducible refine Below.trans ?_ (hb0.mono ?h); case h => first | omega | (simp; done) | (simp; omega))))⟩
end Go.Proofs.Ytekoicbjpoeijaa
