/- Four, Six, Path and Root of package key. No conditions beyond lengths. -/
import Derived.Test.YtekoicbjpoeijaaK7
namespace Go.Proofs.Ytekoicbjpoeijaa
set_option linter.unusedVariables false
set_option linter.unusedSimpArgs false
open Go.RowKit
def fourK (a : Int) : Ke := ⟨1, 32, hi (a * 2 ^ 96), lo (a * 2 ^ 96), []⟩
def sixK (h l : Int) : Ke := ⟨2, 128, h, l, []⟩
def rootK (kind : Int) : Ke := if wid kind = 0 then kz else ⟨kind, 0, 0, 0, []⟩
def pathE (p : List UInt8) : Int := if rightB p = true then 0 else 3
def pathR (p : List UInt8) : Ke := if rightB p = true then pathK p else kz
set_option maxHeartbeats 1000000 in
theorem kfour_t (a : Int) (h0 : 0 ≤ a) (h1 : a < 4294967296) (w : World) : Calls Try.prog 24 #[.int .u32 a] w fun e w' => e = .returned (kv (fourK a)) ∧ Below w.heap.size w w' := by
  have ha : Word a := by unfold Word; omega
  have HO := of_any a
  have HL := left_any 0 a 96 (by unfold Word; omega) ha
  have ew : wv 0 a = a := by unfold wv; omega
  rw [ew] at HL
  have e2 : (2 : Int) ^ (96 : Int).toNat = 2 ^ 96 := rfl
  rw [e2] at HL
  unfold kv fourK
  dsimp only
  generalize hi (a * 2 ^ 96) = H at *
  generalize lo (a * 2 ^ 96) = L at *
  have HB := ofBits_t 1 32 H L
  have wr : IntKind.u64.wrap a = a := by rw [IntKind.wrap_u64]; omega
  have hb0 : Below w.heap.size w (w.alloc (.cells #[.int .i64 0, .int .i64 0, .int .u64 0, .int .u64 0, .string ⟨#[]⟩] 24)) := (by repeat (first | exact Below.refl _ _ | assumption | (with_reducible refine Below.setCell ?_ ?h _; case h => first | omega | (simp; done) | (simp; omega)) | (with_reducible refine Below.alloc ?_ ?h _; case h => first | omega | (simp; done) | (simp; omega)) | (with_reducible refine Below.drew ?_) | (with_reducible refine Below.trans ?_ (hb4.mono ?h); case h => first | omega | (simp; done) | (simp; omega)) | (with_reducible refine Below.trans ?_ (hb3.mono ?h); case h => first | omega | (simp; done) | (simp; omega)) | (with_reducible refine Below.trans ?_ (hb2.mono ?h); case h => first | omega | (simp; done) | (simp; omega)) | (with_reducible refine Below.trans ?_ (hb.mono ?h); case h => first | omega | (simp; done) | (simp; omega)) | (with_reducible refine Below.trans ?_ (hb0.mono ?h); case h => first | omega | (simp; done) | (simp; omega))))
  have R := Row.new w #[.int .i64 0, .int .i64 0, .int .u64 0, .int .u64 0, .string ⟨#[]⟩] 24
  go_enter Try.func24, Try.ntmps24
  go_wp2_with fail
  refine (HO _).mono ?_
  rintro e w1 ⟨rfl, hb⟩
  replace R := R.later hb
  replace hb0 := below_step hb0 hb
  clear hb HO
  go_wp2_with fail
  refine (HL _).mono ?_
  rintro e w2 ⟨rfl, hb⟩
  replace R := R.later hb
  replace hb0 := below_step hb0 hb
  clear hb HL
  go_wp2_with fail
  refine (HB _).mono ?_
  rintro e w3 ⟨rfl, hb⟩
  replace R := R.later hb
  replace hb0 := below_step hb0 hb
  clear hb HB
  have c0 := ((R).cell 0).trans (show _ = some (Value.int .i64 0) from rfl)
  have cf0 := (R).frozen 0
  have c1 := ((R).cell 1).trans (show _ = some (Value.int .i64 0) from rfl)
  have cf1 := (R).frozen 1
  have c2 := ((R).cell 2).trans (show _ = some (Value.int .u64 0) from rfl)
  have cf2 := (R).frozen 2
  have c3 := ((R).cell 3).trans (show _ = some (Value.int .u64 0) from rfl)
  have cf3 := (R).frozen 3
  have c4 := ((R).cell 4).trans (show _ = some (Value.string ⟨#[]⟩) from rfl)
  have cf4 := (R).frozen 4
  clear R
  go_wp2
  refine bodyPost_ret (v := .agg #[.int .i64 1, .int .i64 32, .int .u64 H, .int .u64 L, .string ⟨#[]⟩]) (by simp [results, Try.results24, go_sem, c0, c1, c2, c3, c4]) rfl ⟨rfl, bset5 hb0 (Nat.le_refl _) _ _ _ _ _⟩
set_option maxHeartbeats 1000000 in
theorem ksix_t (h l : Int) (w : World) : Calls Try.prog 26 #[.agg #[.int .u64 h, .int .u64 l]] w fun e w' => e = .returned (kv (sixK h l)) ∧ Below w.heap.size w w' := by
  have HB := ofBits_t 2 128 h l
  unfold kv sixK
  dsimp only
  have hb0 : Below w.heap.size w ((w.alloc (.cells #[.int .u64 h, .int .u64 l] 27)).alloc (.cells #[.int .i64 0, .int .i64 0, .int .u64 0, .int .u64 0, .string ⟨#[]⟩] 24)) := (by repeat (first | exact Below.refl _ _ | assumption | (with_reducible refine Below.setCell ?_ ?h _; case h => first | omega | (simp; done) | (simp; omega)) | (with_reducible refine Below.alloc ?_ ?h _; case h => first | omega | (simp; done) | (simp; omega)) | (with_reducible refine Below.drew ?_) | (with_reducible refine Below.trans ?_ (hb4.mono ?h); case h => first | omega | (simp; done) | (simp; omega)) | (with_reducible refine Below.trans ?_ (hb3.mono ?h); case h => first | omega | (simp; done) | (simp; omega)) | (with_reducible refine Below.trans ?_ (hb2.mono ?h); case h => first | omega | (simp; done) | (simp; omega)) | (with_reducible refine Below.trans ?_ (hb.mono ?h); case h => first | omega | (simp; done) | (simp; omega)) | (with_reducible refine Below.trans ?_ (hb0.mono ?h); case h => first | omega | (simp; done) | (simp; omega))))
  obtain ⟨_, R, _⟩ := two_rows w #[.int .u64 h, .int .u64 l] #[.int .i64 0, .int .i64 0, .int .u64 0, .int .u64 0, .string ⟨#[]⟩] 27 24
  go_enter Try.func26, Try.ntmps26
  go_wp2_with fail
  refine (HB _).mono ?_
  rintro e w3 ⟨rfl, hb⟩
  replace R := R.later hb
  replace hb0 := below_step hb0 hb
  clear hb HB
  have c0 := ((R).cell 0).trans (show _ = some (Value.int .i64 0) from rfl)
  have cf0 := (R).frozen 0
  have c1 := ((R).cell 1).trans (show _ = some (Value.int .i64 0) from rfl)
  have cf1 := (R).frozen 1
  have c2 := ((R).cell 2).trans (show _ = some (Value.int .u64 0) from rfl)
  have cf2 := (R).frozen 2
  have c3 := ((R).cell 3).trans (show _ = some (Value.int .u64 0) from rfl)
  have cf3 := (R).frozen 3
  have c4 := ((R).cell 4).trans (show _ = some (Value.string ⟨#[]⟩) from rfl)
  have cf4 := (R).frozen 4
  clear R
  go_wp2
  refine bodyPost_ret (v := .agg #[.int .i64 2, .int .i64 128, .int .u64 h, .int .u64 l, .string ⟨#[]⟩]) (by simp [results, Try.results26, go_sem, c0, c1, c2, c3, c4]) rfl ⟨rfl, bset5 hb0 (by omega) _ _ _ _ _⟩
set_option maxHeartbeats 1000000 in
theorem kpath_t (p : List UInt8) (hp : p.length ≤ 140737488355328) (w : World) : Calls Try.prog 16 #[.string ⟨p.toArray⟩] w fun e w' => e = .returned (.tuple #[kv (pathR p), .int .i64 (pathE p)]) ∧ Below w.heap.size w w' := by
  have HR := right_t p hp
  have HP := ofPath_t p hp
  unfold pathR pathE
  generalize pathK p = u at *
  obtain ⟨u0, u1, u2, u3, u4⟩ := u
  generalize rightB p = r at *
  have hb0 : Below w.heap.size w (w.alloc (.cells #[.int .i64 0, .int .i64 0, .int .u64 0, .int .u64 0, .string ⟨#[]⟩] 24)) := (by repeat (first | exact Below.refl _ _ | assumption | (with_reducible refine Below.setCell ?_ ?h _; case h => first | omega | (simp; done) | (simp; omega)) | (with_reducible refine Below.alloc ?_ ?h _; case h => first | omega | (simp; done) | (simp; omega)) | (with_reducible refine Below.drew ?_) | (with_reducible refine Below.trans ?_ (hb4.mono ?h); case h => first | omega | (simp; done) | (simp; omega)) | (with_reducible refine Below.trans ?_ (hb3.mono ?h); case h => first | omega | (simp; done) | (simp; omega)) | (with_reducible refine Below.trans ?_ (hb2.mono ?h); case h => first | omega | (simp; done) | (simp; omega)) | (with_reducible refine Below.trans ?_ (hb.mono ?h); case h => first | omega | (simp; done) | (simp; omega)) | (with_reducible refine Below.trans ?_ (hb0.mono ?h); case h => first | omega | (simp; done) | (simp; omega))))
  have R := Row.new w #[.int .i64 0, .int .i64 0, .int .u64 0, .int .u64 0, .string ⟨#[]⟩] 24
  cases r with
  | false =>
    rw [if_neg (by simp), if_neg (by simp)]
    unfold kv kz
    dsimp only
    go_enter Try.func16, Try.ntmps16
    go_wp2_with fail
    refine (HR _).mono ?_
    rintro e w1 ⟨rfl, hb⟩
    replace R := R.later hb
    replace hb0 := below_step hb0 hb
    clear hb HR HP
    have c0 := ((R).cell 0).trans (show _ = some (Value.int .i64 0) from rfl)
    have cf0 := (R).frozen 0
    have c1 := ((R).cell 1).trans (show _ = some (Value.int .i64 0) from rfl)
    have cf1 := (R).frozen 1
    have c2 := ((R).cell 2).trans (show _ = some (Value.int .u64 0) from rfl)
    have cf2 := (R).frozen 2
    have c3 := ((R).cell 3).trans (show _ = some (Value.int .u64 0) from rfl)
    have cf3 := (R).frozen 3
    have c4 := ((R).cell 4).trans (show _ = some (Value.string ⟨#[]⟩) from rfl)
    have cf4 := (R).frozen 4
    clear R
    go_wp2
    refine bodyPost_ret (v := .tuple #[.agg #[.int .i64 0, .int .i64 0, .int .u64 0, .int .u64 0, .string ⟨#[]⟩], .int .i64 3]) (by simp [results, Try.results16, go_sem, c0, c1, c2, c3, c4]) rfl ⟨rfl, bset5 hb0 (by omega) _ _ _ _ _⟩
  | true =>
    rw [if_pos rfl, if_pos rfl]
    unfold kv at *
    dsimp only at *
    go_enter Try.func16, Try.ntmps16
    go_wp2_with fail
    refine (HR _).mono ?_
    rintro e w1 ⟨rfl, hb⟩
    replace R := R.later hb
    replace hb0 := below_step hb0 hb
    clear hb HR
    go_wp2_with fail
    refine (HP _).mono ?_
    rintro e w2 ⟨rfl, hb⟩
    replace R := R.later hb
    replace hb0 := below_step hb0 hb
    clear hb HP
    have c0 := ((R).cell 0).trans (show _ = some (Value.int .i64 0) from rfl)
    have cf0 := (R).frozen 0
    have c1 := ((R).cell 1).trans (show _ = some (Value.int .i64 0) from rfl)
    have cf1 := (R).frozen 1
    have c2 := ((R).cell 2).trans (show _ = some (Value.int .u64 0) from rfl)
    have cf2 := (R).frozen 2
    have c3 := ((R).cell 3).trans (show _ = some (Value.int .u64 0) from rfl)
    have cf3 := (R).frozen 3
    have c4 := ((R).cell 4).trans (show _ = some (Value.string ⟨#[]⟩) from rfl)
    have cf4 := (R).frozen 4
    clear R
    go_wp2
    refine bodyPost_ret (v := .tuple #[.agg #[.int .i64 u0, .int .i64 u1, .int .u64 u2, .int .u64 u3, .string ⟨u4.toArray⟩], .int .i64 0]) (by simp [results, Try.results16, go_sem, c0, c1, c2, c3, c4]) rfl ⟨rfl, bset5 hb0 (by omega) _ _ _ _ _⟩
set_option maxHeartbeats 1000000 in
theorem kroot_t (k : Int) (w : World) : Calls Try.prog 22 #[.int .i64 k] w fun e w' => e = .returned (kv (rootK k)) ∧ Below w.heap.size w w' := by
  have HW := width_t k
  unfold rootK
  generalize wid k = d at *
  have hb0 : Below w.heap.size w (w.alloc (.cells #[.int .i64 0, .int .i64 0, .int .u64 0, .int .u64 0, .string ⟨#[]⟩] 24)) := (by repeat (first | exact Below.refl _ _ | assumption | (with_reducible refine Below.setCell ?_ ?h _; case h => first | omega | (simp; done) | (simp; omega)) | (with_reducible refine Below.alloc ?_ ?h _; case h => first | omega | (simp; done) | (simp; omega)) | (with_reducible refine Below.drew ?_) | (with_reducible refine Below.trans ?_ (hb4.mono ?h); case h => first | omega | (simp; done) | (simp; omega)) | (with_reducible refine Below.trans ?_ (hb3.mono ?h); case h => first | omega | (simp; done) | (simp; omega)) | (with_reducible refine Below.trans ?_ (hb2.mono ?h); case h => first | omega | (simp; done) | (simp; omega)) | (with_reducible refine Below.trans ?_ (hb.mono ?h); case h => first | omega | (simp; done) | (simp; omega)) | (with_reducible refine Below.trans ?_ (hb0.mono ?h); case h => first | omega | (simp; done) | (simp; omega))))
  have R := Row.new w #[.int .i64 0, .int .i64 0, .int .u64 0, .int .u64 0, .string ⟨#[]⟩] 24
  by_cases h : d = 0
  · subst h
    rw [if_pos rfl]
    unfold kv kz
    dsimp only
    go_enter Try.func22, Try.ntmps22
    go_wp2_with fail
    refine (HW _).mono ?_
    rintro e w1 ⟨rfl, hb⟩
    replace R := R.later hb
    replace hb0 := below_step hb0 hb
    clear hb HW
    have c0 := ((R).cell 0).trans (show _ = some (Value.int .i64 0) from rfl)
    have cf0 := (R).frozen 0
    have c1 := ((R).cell 1).trans (show _ = some (Value.int .i64 0) from rfl)
    have cf1 := (R).frozen 1
    have c2 := ((R).cell 2).trans (show _ = some (Value.int .u64 0) from rfl)
    have cf2 := (R).frozen 2
    have c3 := ((R).cell 3).trans (show _ = some (Value.int .u64 0) from rfl)
    have cf3 := (R).frozen 3
    have c4 := ((R).cell 4).trans (show _ = some (Value.string ⟨#[]⟩) from rfl)
    have cf4 := (R).frozen 4
    clear R
    go_wp2
    refine bodyPost_ret (v := .agg #[.int .i64 0, .int .i64 0, .int .u64 0, .int .u64 0, .string ⟨#[]⟩]) (by simp [results, Try.results22, go_sem, c0, c1, c2, c3, c4]) rfl ⟨rfl, bset5 hb0 (by omega) _ _ _ _ _⟩
  · rw [if_neg h]
    have h' : (d == 0) = false := by simpa using h
    unfold kv
    dsimp only
    go_enter Try.func22, Try.ntmps22
    go_wp2_with fail
    refine (HW _).mono ?_
    rintro e w1 ⟨rfl, hb⟩
    replace R := R.later hb
    replace hb0 := below_step hb0 hb
    clear hb HW
    have c0 := ((R).cell 0).trans (show _ = some (Value.int .i64 0) from rfl)
    have cf0 := (R).frozen 0
    have c1 := ((R).cell 1).trans (show _ = some (Value.int .i64 0) from rfl)
    have cf1 := (R).frozen 1
    have c2 := ((R).cell 2).trans (show _ = some (Value.int .u64 0) from rfl)
    have cf2 := (R).frozen 2
    have c3 := ((R).cell 3).trans (show _ = some (Value.int .u64 0) from rfl)
    have cf3 := (R).frozen 3
    have c4 := ((R).cell 4).trans (show _ = some (Value.string ⟨#[]⟩) from rfl)
    have cf4 := (R).frozen 4
    clear R
    go_wp2
    refine bodyPost_ret (v := .agg #[.int .i64 k, .int .i64 0, .int .u64 0, .int .u64 0, .string ⟨#[]⟩]) (by simp [results, Try.results22, go_sem, c0, c1, c2, c3, c4]) rfl ⟨rfl, bset5 hb0 (by omega) _ _ _ _ _⟩
end Go.Proofs.Ytekoicbjpoeijaa
