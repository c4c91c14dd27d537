/- F0, Num, Num2, WideN, V0, Shelf, V1, SubN, Num3, MulN, RA, V2, V3, V4, RZ, BitsN: what the theorem needs of these texts. No conditions beyond those that are written. -/
import Derived.WalkKit
import Derived.WalkSpells
import Derived.WalkLawsBesides
import Derived.Lib.Hide
import Derived.Deep.RegionWith
import Derived.Deep.RegionHeld3
import Derived.Laws.Rows
import Derived.Deep.MidRow
import Derived.Lib.BitFns
import Derived.Shelf.Small.Bits
import Derived.Shelf.Strconv.Itoa0
import Derived.Test.YthohpcbfohlmhaaProg
import Derived.BigQuiet
import Derived.WalkSmall
import Derived.Deep.CutBlock
import Derived.Deep.DeepCutAuto
import Derived.Lib.SmallJoins
import Derived.Deep.WholeRow
import Derived.OwnWalk
import Derived.ProofKit
import Derived.OpenShut
import Derived.ShutString
import Derived.ChangeOld
import Derived.Below
namespace Go.Proofs.Ythohpcbfohlmhaa
set_option linter.unusedVariables false
set_option linter.unusedSimpArgs false
open Go.RowKit
theorem ret_int {k : IntKind} {a b : Int} (h : a = b) : Ending.returned (.int k a) = .returned (.int k b) := by rw [h]
theorem below_step {w W w' : World} (h : Below w.heap.size w W) (hb : Below W.heap.size W w') : Below w.heap.size w w' := h.trans (hb.mono h.size)
/-- block g of the world is the row cs of type t, none of it frozen -/
def Row (w : World) (g : Nat) (cs : Array Value) (t : TypeId) : Prop := w.heap[g]? = some (.cells cs t (0, 0))

theorem Row.cell {w : World} {g : Nat} {cs : Array Value} {t : TypeId} (h : Row w g cs t) (j : Nat) : w.cell? ⟨g, j, none⟩ = cs[j]? := cell_of_row w g j cs t _ h
theorem Row.frozen {w : World} {g : Nat} {cs : Array Value} {t : TypeId} (h : Row w g cs t) (j : Nat) : w.frozen? ⟨g, j, none⟩ = false := frozen_of_row w g j cs t h
theorem Row.lt {w : World} {g : Nat} {cs : Array Value} {t : TypeId} (h : Row w g cs t) : g < w.heap.size := by
  by_cases hl : g < w.heap.size
  · exact hl
  · unfold Row at h; rw [Array.getElem?_eq_none (by omega)] at h; cases h
theorem Row.new (w : World) (cs : Array Value) (t : TypeId) : Row (w.alloc (.cells cs t)) w.heap.size cs t := heap_alloc_new w _
theorem Row.alloc {w : World} {g : Nat} {cs : Array Value} {t : TypeId} (h : Row w g cs t) (o : Obj) : Row (w.alloc o) g cs t := (Below.heap_alloc w o g h.lt).trans h
theorem Row.drew {w : World} {g : Nat} {cs : Array Value} {t : TypeId} (h : Row w g cs t) : Row w.drew g cs t := h
theorem Row.set {w : World} {g : Nat} {cs : Array Value} {t : TypeId} (h : Row w g cs t) (i : Nat) (v : Value) : Row (w.setCell ⟨g, i, none⟩ v) g (cs.setIfInBounds i v) t := heap_setCell_same w g i cs t v h
theorem Row.set_far {w : World} {g : Nat} {cs : Array Value} {t : TypeId} (h : Row w g cs t) (a : Addr) (v : Value) (hne : g ≠ a.block) : Row (w.setCell a v) g cs t := (heap_setCell_other w a g v hne).trans h
theorem Row.later {w w' : World} {g : Nat} {cs : Array Value} {t : TypeId} (h : Row w g cs t) (hb : Below w.heap.size w w') : Row w' g cs t := (hb.block g h.lt).trans h
theorem Row.below {B : Nat} {w w' : World} {g : Nat} {cs : Array Value} {t : TypeId} (h : Row w g cs t) (hb : Below B w w') (hg : g < B) : Row w' g cs t := (hb.block g hg).trans h
theorem Row.there {w : World} {g : Nat} {cs : Array Value} {t : TypeId} (h : Row w g cs t) (n : Nat) (hn : n ≤ cs.size) : w.there g 0 n := fun j hj => by
  rw [Nat.zero_add, h.cell j, h.frozen j, Array.getElem?_eq_getElem (by omega)]
  exact ⟨rfl, rfl⟩
def setL (cs : Array Value) : Nat → List Value → Array Value
  | _, [] => cs
  | o, v :: r => setL (cs.setIfInBounds o v) (o + 1) r
theorem Row.setCells {g : Nat} {t : TypeId} : ∀ (vs : List Value) (o : Nat) {w : World} {cs : Array Value}, Row w g cs t → Row (w.setCells g o vs) g (setL cs o vs) t
  | [], _, _, _, h => h
  | v :: r, o, _, _, h => Row.setCells r (o + 1) (h.set o v)
theorem setL_get : ∀ (vs : List Value) (o : Nat) (cs : Array Value) (i : Nat), o + vs.length ≤ cs.size → (setL cs o vs)[i]? = if o ≤ i ∧ i < o + vs.length then vs[i - o]? else cs[i]?
  | [], o, cs, i, _ => by rw [setL, if_neg (by simp <;> omega)]
  | v :: r, o, cs, i, h => by
    simp only [List.length_cons] at h
    rw [setL, setL_get r (o + 1) _ i (by simp; omega)]
    by_cases h1 : o + 1 ≤ i ∧ i < o + 1 + r.length
    · rw [if_pos h1, if_pos (by simp only [List.length_cons]; omega), show i - o = (i - (o + 1)) + 1 by omega, List.getElem?_cons_succ]
    · rw [if_neg h1]
      by_cases h2 : i = o
      · subst h2
        rw [if_pos (by simp only [List.length_cons]; omega), Array.getElem?_setIfInBounds_self_of_lt (by omega), Nat.sub_self]; rfl
      · rw [if_neg (by simp only [List.length_cons]; omega), Array.getElem?_setIfInBounds_ne (by omega)]
theorem setL_all (cs ds : Array Value) (h : ds.size = cs.size) : setL cs 0 ds.toList = ds := by
  apply Array.ext_getElem?
  intro i
  rw [setL_get ds.toList 0 cs i (by simp [h])]
  by_cases hi : i < ds.size
  · rw [if_pos (by simp [hi])]; simp
  · rw [if_neg (by simp; omega), Array.getElem?_eq_none (by omega), Array.getElem?_eq_none (by omega)]
/-- a whole row stored into a row of its length -/
theorem Row.setAll {w : World} {g : Nat} {cs : Array Value} {t : TypeId} (h : Row w g cs t) (ds : Array Value) (hd : ds.size = cs.size) : Row (w.setCells g 0 ds.toList) g ds t := by
  have := Row.setCells ds.toList 0 h
  rwa [setL_all cs ds hd] at this
theorem setCells_other {g k : Nat} (hne : k ≠ g) : ∀ (vs : List Value) (o : Nat) (w : World), (w.setCells g o vs).heap[k]? = w.heap[k]?
  | [], _, _ => rfl
  | v :: r, o, w => by rw [World.setCells, setCells_other hne r (o + 1), heap_setCell_other _ _ _ _ hne]
theorem below_setCells {B g : Nat} {a : World} (hg : B ≤ g) : ∀ (vs : List Value) (o : Nat) (w : World), Below B a w → Below B a (w.setCells g o vs)
  | [], _, _, h => h
  | v :: r, o, w, h => below_setCells hg r (o + 1) _ (h.setCell hg v)
end Go.Proofs.Ythohpcbfohlmhaa
namespace Go.Proofs.Ythohpcbfohlmhaa
set_option linter.unusedVariables false
set_option linter.unusedSimpArgs false

/-- 2^64. -/
def M : Int := 18446744073709551616
/-- 2^128. -/
def MM : Int := 340282366920938463463374607431768211456
/-- the high word of a number modulo 2^128 -/
def hi (n : Int) : Int := n / 18446744073709551616 % 18446744073709551616
/-- the low word -/
def lo (n : Int) : Int := n % 18446744073709551616
/-- the number of two words -/
def wv (h l : Int) : Int := h * 18446744073709551616 + l
def Word (x : Int) : Prop := 0 ≤ x ∧ x < 18446744073709551616

theorem word_hi (n : Int) : Word (hi n) := by unfold Word hi; omega
theorem word_lo (n : Int) : Word (lo n) := by unfold Word lo; omega
theorem hi_nonneg (n : Int) : 0 ≤ hi n := by unfold hi; omega
theorem lo_nonneg (n : Int) : 0 ≤ lo n := by unfold lo; omega
theorem hi_le (n : Int) : hi n ≤ 18446744073709551615 := by unfold hi; omega
theorem lo_le (n : Int) : lo n ≤ 18446744073709551615 := by unfold lo; omega
theorem hi_wv {h l : Int} (hh : Word h) (hl : Word l) : hi (wv h l) = h := by unfold Word at *; unfold hi wv; omega
theorem lo_wv {h l : Int} (hl : Word l) : lo (wv h l) = l := by unfold Word at *; unfold lo wv; omega
theorem wv_hi_lo (n : Int) : wv (hi n) (lo n) = n % MM := by unfold wv hi lo MM; omega
theorem hi_mod (n : Int) : hi (n % MM) = hi n := by unfold hi MM; omega
theorem lo_mod (n : Int) : lo (n % MM) = lo n := by unfold lo MM; omega
theorem hi_congr {a b : Int} (h : a % MM = b % MM) : hi a = hi b := by rw [← hi_mod a, h, hi_mod]
theorem lo_congr {a b : Int} (h : a % MM = b % MM) : lo a = lo b := by rw [← lo_mod a, h, lo_mod]

/-- -1, 0 or 1, as a is below, equal to or above b -/
def cmpI (a b : Int) : Int := if a < b then -1 else if a = b then 0 else 1
theorem cmpI_neg (a b : Int) : decide (cmpI a b < 0) = decide (a < b) := by unfold cmpI; split <;> (try split) <;> simp_all
end Go.Proofs.Ythohpcbfohlmhaa
namespace Go.Proofs.Ythohpcbfohlmhaa
set_option linter.unusedVariables false
set_option linter.unusedSimpArgs false

def andI (a b : Int) : Int := ((a.toNat &&& b.toNat : Nat) : Int)
def orI (a b : Int) : Int := ((a.toNat ||| b.toNat : Nat) : Int)

theorem ofInt_toNat (x : Int) (h : Word x) : (BitVec.ofInt 64 x).toNat = x.toNat := by
  obtain ⟨h0, h1⟩ := h
  obtain ⟨n, rfl⟩ := Int.eq_ofNat_of_zero_le h0
  rw [BitVec.ofInt_natCast, BitVec.toNat_ofNat, Int.toNat_natCast]; exact Nat.mod_eq_of_lt (by omega)
theorem word_toNat {x : Int} (h : Word x) : x.toNat < 2 ^ 64 := by obtain ⟨_, _⟩ := h; omega
theorem andI_word {x y : Int} (hx : Word x) : Word (andI x y) := by
  have : x.toNat &&& y.toNat < 2 ^ 64 := Nat.lt_of_le_of_lt Nat.and_le_left (word_toNat hx)
  unfold andI Word; omega
theorem orI_word {x y : Int} (hx : Word x) (hy : Word y) : Word (orI x y) := by
  have : x.toNat ||| y.toNat < 2 ^ 64 := Nat.or_lt_two_pow (word_toNat hx) (word_toNat hy)
  unfold orI Word; omega
theorem bits_and_w {x y : Int} (hx : Word x) (hy : Word y) : bits .and .u64 x y = andI x y := by
  have hw := andI_word (y := y) hx
  show IntKind.u64.wrap ((BitVec.ofInt 64 x &&& BitVec.ofInt 64 y).toNat : Int) = _
  rw [BitVec.toNat_and, ofInt_toNat x hx, ofInt_toNat y hy, IntKind.wrap_u64]
  unfold andI Word at *; omega
theorem bits_or_w {x y : Int} (hx : Word x) (hy : Word y) : bits .or .u64 x y = orI x y := by
  have hw := orI_word hx hy
  show IntKind.u64.wrap ((BitVec.ofInt 64 x ||| BitVec.ofInt 64 y).toNat : Int) = _
  rw [BitVec.toNat_or, ofInt_toNat x hx, ofInt_toNat y hy, IntKind.wrap_u64]
  unfold orI Word at *; omega

theorem wv_nonneg {h l : Int} (hh : Word h) (hl : Word l) : 0 ≤ wv h l := by
  obtain ⟨_, _⟩ := hh; obtain ⟨_, _⟩ := hl; unfold wv; omega
theorem wv_lt {h l : Int} (hh : Word h) (hl : Word l) : wv h l < MM := by
  obtain ⟨_, _⟩ := hh; obtain ⟨_, _⟩ := hl; unfold wv MM; omega
theorem hi_nat (n : Nat) : hi (n : Int) = ((n / 2 ^ 64 % 2 ^ 64 : Nat) : Int) := by unfold hi; omega
theorem lo_nat (n : Nat) : lo (n : Int) = ((n % 2 ^ 64 : Nat) : Int) := by unfold lo; omega

/-- 2^n of a 64-bit shift, over the naturals -/
theorem pow_split (n : Nat) (h : n ≤ 64) : 2 ^ n * 2 ^ (64 - n) = 2 ^ 64 := by rw [← Nat.pow_add]; congr 1; omega

theorem shl_nat (a b n : Nat) (hn : n ≤ 64) (ha : a < 2 ^ 64) (hb : b < 2 ^ 64) :
    (a * 2 ^ 64 + b) * 2 ^ n / 2 ^ 64 % 2 ^ 64 = (a * 2 ^ n % 2 ^ 64) ||| (b / 2 ^ (64 - n)) ∧ (a * 2 ^ 64 + b) * 2 ^ n % 2 ^ 64 = b * 2 ^ n % 2 ^ 64 := by
  have hp := pow_split n hn
  have hpos : 0 < 2 ^ (64 - n) := Nat.two_pow_pos _
  have hpos' : 0 < 2 ^ n := Nat.two_pow_pos _
  have e1 : (a * 2 ^ 64 + b) * 2 ^ n = b * 2 ^ n + 2 ^ 64 * (a * 2 ^ n) := by rw [Nat.add_mul, Nat.add_comm]; congr 1; rw [Nat.mul_assoc, Nat.mul_left_comm]
  have e2 : b * 2 ^ n / 2 ^ 64 = b / 2 ^ (64 - n) := by
    rw [← hp, Nat.mul_comm b, Nat.mul_div_mul_left _ _ hpos']
  have e3 : a * 2 ^ n % 2 ^ 64 = 2 ^ n * (a % 2 ^ (64 - n)) := by
    rw [← hp, Nat.mul_comm a, Nat.mul_mod_mul_left]
  have e4 : b / 2 ^ (64 - n) < 2 ^ n := by rw [Nat.div_lt_iff_lt_mul hpos, hp]; exact hb
  constructor
  · rw [e1, Nat.add_mul_div_left _ _ (Nat.two_pow_pos _), e2, Nat.add_comm, Nat.add_mod, e3, ← Nat.two_pow_add_eq_or_of_lt e4, Nat.mod_eq_of_lt (a := b / 2 ^ (64 - n)) (Nat.lt_of_lt_of_le e4 (Nat.pow_le_pow_right (by omega) hn))]
    refine Nat.mod_eq_of_lt ?_
    have : a % 2 ^ (64 - n) + 1 ≤ 2 ^ (64 - n) := Nat.mod_lt _ hpos
    calc 2 ^ n * (a % 2 ^ (64 - n)) + b / 2 ^ (64 - n) < 2 ^ n * (a % 2 ^ (64 - n)) + 2 ^ n := by omega
      _ = 2 ^ n * (a % 2 ^ (64 - n) + 1) := by rw [Nat.mul_add, Nat.mul_one]
      _ ≤ 2 ^ n * 2 ^ (64 - n) := Nat.mul_le_mul_left _ this
      _ = 2 ^ 64 := hp
  · rw [e1, Nat.add_mul_mod_self_left]

theorem word_div {x : Int} (hx : Word x) (k : Nat) : Word (x / 2 ^ k) := by
  obtain ⟨a, rfl⟩ := Int.eq_ofNat_of_zero_le hx.1
  have : a / 2 ^ k ≤ a := Nat.div_le_self _ _
  have e : (a : Int) / 2 ^ k = ((a / 2 ^ k : Nat) : Int) := by simp
  have := hx.2
  rw [e]; unfold Word; generalize a / 2 ^ k = z at *; omega
theorem word_wrap (x : Int) : Word (IntKind.u64.wrap x) := by unfold Word; rw [IntKind.wrap_u64]; omega

theorem shl_pure (ah al n : Int) (h1 : Word ah) (h2 : Word al) (hn0 : 0 ≤ n) (hn : n ≤ 64) :
    hi (wv ah al * 2 ^ n.toNat) = bits .or .u64 (IntKind.u64.wrap (ah * 2 ^ n.toNat)) (al / 2 ^ (64 - n).toNat) ∧ lo (wv ah al * 2 ^ n.toNat) = IntKind.u64.wrap (al * 2 ^ n.toNat) := by
  rw [bits_or_w (word_wrap _) (word_div h2 _)]
  obtain ⟨a, rfl⟩ := Int.eq_ofNat_of_zero_le h1.1
  obtain ⟨b, rfl⟩ := Int.eq_ofNat_of_zero_le h2.1
  obtain ⟨k, rfl⟩ := Int.eq_ofNat_of_zero_le hn0
  have ha := h1.2; have hb := h2.2
  obtain ⟨p1, p2⟩ := shl_nat a b k (by omega) (by omega) (by omega)
  have e0 : wv (a : Int) (b : Int) * 2 ^ (k : Int).toNat = (((a * 2 ^ 64 + b) * 2 ^ k : Nat) : Int) := by unfold wv; simp
  have e1 : IntKind.u64.wrap ((a : Int) * 2 ^ (k : Int).toNat) = ((a * 2 ^ k % 2 ^ 64 : Nat) : Int) := by rw [IntKind.wrap_u64]; simp
  have e2 : IntKind.u64.wrap ((b : Int) * 2 ^ (k : Int).toNat) = ((b * 2 ^ k % 2 ^ 64 : Nat) : Int) := by rw [IntKind.wrap_u64]; simp
  have e3 : (64 - (k : Int)).toNat = 64 - k := by omega
  have e4 : (b : Int) / 2 ^ (64 - k) = ((b / 2 ^ (64 - k) : Nat) : Int) := by simp
  rw [e0, hi_nat, lo_nat, p1, p2, e1, e2, e3, e4]; unfold orI
  exact ⟨rfl, rfl⟩
/-- a shift by 64 and more -/
theorem shl_far (ah al n : Int) (h1 : Word ah) (h2 : Word al) (hn0 : 64 ≤ n) :
    hi (wv ah al * 2 ^ n.toNat) = IntKind.u64.wrap (al * 2 ^ (n - 64).toNat) ∧ lo (wv ah al * 2 ^ n.toNat) = 0 := by
  obtain ⟨k, hk⟩ := Int.eq_ofNat_of_zero_le (show 0 ≤ n - 64 by omega)
  have e : n.toNat = 64 + k := by omega
  rw [hk, e, IntKind.wrap_u64, Int.pow_add, Int.toNat_natCast]; unfold hi lo wv
  rw [show (ah * 18446744073709551616 + al) * (2 ^ 64 * 2 ^ k) = (ah * 2 ^ k * 18446744073709551616 + al * 2 ^ k) * 18446744073709551616 by
    rw [Int.add_mul, Int.add_mul]; congr 1 <;> (generalize (2 : Int) ^ k = z; rw [show (2 : Int) ^ 64 = 18446744073709551616 by decide]; simp only [Int.mul_assoc, Int.mul_comm, Int.mul_left_comm])]
  generalize ah * 2 ^ k = u; generalize al * 2 ^ k = v
  omega
theorem pow_ge (n : Nat) (h : 128 ≤ n) : (2 : Int) ^ n = MM * 2 ^ (n - 128) := by
  obtain ⟨k, rfl⟩ := Nat.exists_eq_add_of_le h
  rw [Int.pow_add, Nat.add_sub_cancel_left]; rfl
theorem shl_out (v n : Int) (hn0 : 128 ≤ n) : hi (v * 2 ^ n.toNat) = 0 ∧ lo (v * 2 ^ n.toNat) = 0 := by
  rw [pow_ge n.toNat (by omega)]
  rw [show v * (MM * 2 ^ (n.toNat - 128)) = v * 2 ^ (n.toNat - 128) * MM by rw [Int.mul_assoc, Int.mul_comm MM]]
  generalize v * 2 ^ (n.toNat - 128) = z; unfold hi lo MM; omega
end Go.Proofs.Ythohpcbfohlmhaa
namespace Go.Proofs.Ythohpcbfohlmhaa
set_option linter.unusedVariables false
set_option linter.unusedSimpArgs false
open Go.RowKit
theorem bcell {W w1 : World} (hb : Below W.heap.size W w1) : (∀ b o, b < W.heap.size → w1.cell? ⟨b, o, none⟩ = W.cell? ⟨b, o, none⟩) ∧ (∀ b o, b < W.heap.size → w1.frozen? ⟨b, o, none⟩ = W.frozen? ⟨b, o, none⟩) :=
  ⟨fun b o h => hb.cell (p := ⟨b, o, none⟩) h, fun b o h => hb.frozen (p := ⟨b, o, none⟩) h⟩

set_option maxHeartbeats 400000 in
theorem of_any (n : Int) (w : World) :
    Calls Try.prog 30 #[.int .u64 n] w fun e w' => e = .returned (.agg #[.int .u64 0, .int .u64 n]) ∧ Below w.heap.size w w' := by
  go_enter Try.func30, Try.ntmps30
  go_wp2
  exact bodyPost_ret (v := .agg #[.int .u64 0, .int .u64 n]) (by simp [results, Try.results30, go_sem]) rfl ⟨rfl, (by repeat (first | exact Below.refl _ _ | assumption | (with_reducible refine Below.setCell ?_ ?h _; case h => first | omega | (simp; done) | (simp; omega)) | (with_reducible refine Below.alloc ?_ ?h _; case h => first | omega | (simp; done) | (simp; omega)) | (with_reducible refine Below.drew ?_) | (with_reducible refine Below.trans ?_ (hb4.mono ?h); case h => first | omega | (simp; done) | (simp; omega)) | (with_reducible refine Below.trans ?_ (hb3.mono ?h); case h => first | omega | (simp; done) | (simp; omega)) | (with_reducible refine Below.trans ?_ (hb2.mono ?h); case h => first | omega | (simp; done) | (simp; omega)) | (with_reducible refine Below.trans ?_ (hb.mono ?h); case h => first | omega | (simp; done) | (simp; omega)) | (with_reducible refine Below.trans ?_ (hb0.mono ?h); case h => first | omega | (simp; done) | (simp; omega))))⟩

set_option maxHeartbeats 400000 in
theorem left_any (ah al n : Int) (h1 : Word ah) (h2 : Word al) (w : World) :
    Calls Try.prog 38 #[.agg #[.int .u64 ah, .int .u64 al], .int .i64 n] w fun e w' =>
      e = .returned (.agg #[.int .u64 (hi (wv ah al * 2 ^ n.toNat)), .int .u64 (lo (wv ah al * 2 ^ n.toNat))]) ∧ Below w.heap.size w w' := by
  by_cases c1 : n < 1
  · have e0 : n.toNat = 0 := by omega
    rw [e0, Int.pow_zero, Int.mul_one, hi_wv h1 h2, lo_wv h2]; clear e0 h1 h2
    go_enter Try.func38, Try.ntmps38
    go_wp2
    exact bodyPost_ret (v := .agg #[.int .u64 ah, .int .u64 al]) (by simp [results, Try.results38, go_sem]) rfl ⟨rfl, (by repeat (first | exact Below.refl _ _ | assumption | (with_reducible refine Below.setCell ?_ ?h _; case h => first | omega | (simp; done) | (simp; omega)) | (with_reducible refine Below.alloc ?_ ?h _; case h => first | omega | (simp; done) | (simp; omega)) | (with_reducible refine Below.drew ?_) | (with_reducible refine Below.trans ?_ (hb4.mono ?h); case h => first | omega | (simp; done) | (simp; omega)) | (with_reducible refine Below.trans ?_ (hb3.mono ?h); case h => first | omega | (simp; done) | (simp; omega)) | (with_reducible refine Below.trans ?_ (hb2.mono ?h); case h => first | omega | (simp; done) | (simp; omega)) | (with_reducible refine Below.trans ?_ (hb.mono ?h); case h => first | omega | (simp; done) | (simp; omega)) | (with_reducible refine Below.trans ?_ (hb0.mono ?h); case h => first | omega | (simp; done) | (simp; omega))))⟩
  by_cases c2 : 128 ≤ n
  · obtain ⟨P1, P2⟩ := shl_out (wv ah al) n c2
    rw [P1, P2]; clear P1 P2 h1 h2
    go_enter Try.func38, Try.ntmps38
    go_wp2
    exact bodyPost_ret (v := .agg #[.int .u64 0, .int .u64 0]) (by simp [results, Try.results38, go_sem]) rfl ⟨rfl, (by repeat (first | exact Below.refl _ _ | assumption | (with_reducible refine Below.setCell ?_ ?h _; case h => first | omega | (simp; done) | (simp; omega)) | (with_reducible refine Below.alloc ?_ ?h _; case h => first | omega | (simp; done) | (simp; omega)) | (with_reducible refine Below.drew ?_) | (with_reducible refine Below.trans ?_ (hb4.mono ?h); case h => first | omega | (simp; done) | (simp; omega)) | (with_reducible refine Below.trans ?_ (hb3.mono ?h); case h => first | omega | (simp; done) | (simp; omega)) | (with_reducible refine Below.trans ?_ (hb2.mono ?h); case h => first | omega | (simp; done) | (simp; omega)) | (with_reducible refine Below.trans ?_ (hb.mono ?h); case h => first | omega | (simp; done) | (simp; omega)) | (with_reducible refine Below.trans ?_ (hb0.mono ?h); case h => first | omega | (simp; done) | (simp; omega))))⟩
  by_cases c3 : 64 ≤ n
  · obtain ⟨P1, P2⟩ := shl_far ah al n h1 h2 c3
    rw [P1, P2]; clear P1 P2
    obtain ⟨b1, b2⟩ := h2; clear h1
    go_enter Try.func38, Try.ntmps38
    go_wp2
    exact bodyPost_ret (v := .agg #[.int .u64 (IntKind.u64.wrap (al * 2 ^ (n - 64).toNat)), .int .u64 0]) (by simp [results, Try.results38, go_sem]) rfl ⟨rfl, (by repeat (first | exact Below.refl _ _ | assumption | (with_reducible refine Below.setCell ?_ ?h _; case h => first | omega | (simp; done) | (simp; omega)) | (with_reducible refine Below.alloc ?_ ?h _; case h => first | omega | (simp; done) | (simp; omega)) | (with_reducible refine Below.drew ?_) | (with_reducible refine Below.trans ?_ (hb4.mono ?h); case h => first | omega | (simp; done) | (simp; omega)) | (with_reducible refine Below.trans ?_ (hb3.mono ?h); case h => first | omega | (simp; done) | (simp; omega)) | (with_reducible refine Below.trans ?_ (hb2.mono ?h); case h => first | omega | (simp; done) | (simp; omega)) | (with_reducible refine Below.trans ?_ (hb.mono ?h); case h => first | omega | (simp; done) | (simp; omega)) | (with_reducible refine Below.trans ?_ (hb0.mono ?h); case h => first | omega | (simp; done) | (simp; omega))))⟩
  obtain ⟨P1, P2⟩ := shl_pure ah al n h1 h2 (by omega) (by omega)
  rw [P1, P2]; clear P1 P2
  obtain ⟨a1, a2⟩ := h1; obtain ⟨b1, b2⟩ := h2
  go_enter Try.func38, Try.ntmps38
  go_wp2
  go_region
  all_goals go_wp2
  all_goals exact bodyPost_ret (v := .agg #[.int .u64 (bits .or .u64 (IntKind.u64.wrap (ah * 2 ^ n.toNat)) (al / 2 ^ (64 - n).toNat)), .int .u64 (IntKind.u64.wrap (al * 2 ^ n.toNat))]) (by simp [results, Try.results38, go_sem]) rfl ⟨rfl, (by repeat (first | exact Below.refl _ _ | assumption | (with_reducible refine Below.setCell ?_ ?h _; case h => first | omega | (simp; done) | (simp; omega)) | (with_reducible refine Below.alloc ?_ ?h _; case h => first | omega | (simp; done) | (simp; omega)) | (with_reducible refine Below.drew ?_) | (with_reducible refine Below.trans ?_ (hb4.mono ?h); case h => first | omega | (simp; done) | (simp; omega)) | (with_reducible refine Below.trans ?_ (hb3.mono ?h); case h => first | omega | (simp; done) | (simp; omega)) | (with_reducible refine Below.trans ?_ (hb2.mono ?h); case h => first | omega | (simp; done) | (simp; omega)) | (with_reducible refine Below.trans ?_ (hb.mono ?h); case h => first | omega | (simp; done) | (simp; omega)) | (with_reducible refine Below.trans ?_ (hb0.mono ?h); case h => first | omega | (simp; done) | (simp; omega))))⟩

theorem cmp_pure (ah al bh bl : Int) (h1 : Word ah) (h2 : Word al) (h3 : Word bh) (h4 : Word bl) :
    cmpI (wv ah al) (wv bh bl) = if ah = bh then (if al = bl then 0 else if al < bl then -1 else 1) else if ah < bh then -1 else 1 := by
  obtain ⟨a1, a2⟩ := h1; obtain ⟨b1, b2⟩ := h2; obtain ⟨c1, c2⟩ := h3; obtain ⟨d1, d2⟩ := h4
  unfold cmpI wv
  repeat' split
  all_goals omega

set_option maxHeartbeats 400000 in
theorem cmp_any (ah al bh bl : Int) (h1 : Word ah) (h2 : Word al) (h3 : Word bh) (h4 : Word bl) (w : World) :
    Calls Try.prog 29 #[.agg #[.int .u64 ah, .int .u64 al], .agg #[.int .u64 bh, .int .u64 bl]] w fun e w' =>
      e = .returned (.int .i64 (cmpI (wv ah al) (wv bh bl))) ∧ Below w.heap.size w w' := by
  have H := Lib.hid (cmp_pure ah al bh bl h1 h2 h3 h4)
  obtain ⟨a1, a2⟩ := h1; obtain ⟨b1, b2⟩ := h2; obtain ⟨c1, c2⟩ := h3; obtain ⟨d1, d2⟩ := h4
  go_enter Try.func29, Try.ntmps29
  go_wp2
  all_goals go_ret
  all_goals refine ⟨?_, (by repeat (first | exact Below.refl _ _ | assumption | (with_reducible refine Below.setCell ?_ ?h _; case h => first | omega | (simp; done) | (simp; omega)) | (with_reducible refine Below.alloc ?_ ?h _; case h => first | omega | (simp; done) | (simp; omega)) | (with_reducible refine Below.drew ?_) | (with_reducible refine Below.trans ?_ (hb4.mono ?h); case h => first | omega | (simp; done) | (simp; omega)) | (with_reducible refine Below.trans ?_ (hb3.mono ?h); case h => first | omega | (simp; done) | (simp; omega)) | (with_reducible refine Below.trans ?_ (hb2.mono ?h); case h => first | omega | (simp; done) | (simp; omega)) | (with_reducible refine Below.trans ?_ (hb.mono ?h); case h => first | omega | (simp; done) | (simp; omega)) | (with_reducible refine Below.trans ?_ (hb0.mono ?h); case h => first | omega | (simp; done) | (simp; omega))))⟩
  all_goals rw [H.out]
  all_goals (refine ret_int ?_; repeat' split)
  all_goals first | rfl | omega



def addB (a b : Int) : Bool := decide (MM ≤ a + b)
def subB (a b : Int) : Bool := decide (a < b)

theorem add_pure0 (ah al bh bl : Int) (h1 : Word ah) (h2 : Word al) (h3 : Word bh) (h4 : Word bl) (hc : al + bl < 18446744073709551616) :
    hi (wv ah al + wv bh bl) = IntKind.u64.wrap (ah + bh) ∧ lo (wv ah al + wv bh bl) = al + bl ∧
    decide (cmpI (wv (IntKind.u64.wrap (ah + bh)) (al + bl)) (wv ah al) < 0) = addB (wv ah al) (wv bh bl) := by
  obtain ⟨a1, a2⟩ := h1; obtain ⟨b1, b2⟩ := h2; obtain ⟨c1, c2⟩ := h3; obtain ⟨d1, d2⟩ := h4
  rw [cmpI_neg, IntKind.wrap_u64]; unfold hi lo wv addB MM
  refine ⟨by omega, by omega, ?_⟩
  rw [decide_eq_decide]; omega

theorem add_pure1 (ah al bh bl : Int) (h1 : Word ah) (h2 : Word al) (h3 : Word bh) (h4 : Word bl) (hc : ¬ al + bl < 18446744073709551616) :
    hi (wv ah al + wv bh bl) = IntKind.u64.wrap (IntKind.u64.wrap (ah + bh) + 1) ∧ lo (wv ah al + wv bh bl) = IntKind.u64.wrap (al + bl) ∧
    decide (cmpI (wv (IntKind.u64.wrap (IntKind.u64.wrap (ah + bh) + 1)) (IntKind.u64.wrap (al + bl))) (wv ah al) < 0) = addB (wv ah al) (wv bh bl) := by
  obtain ⟨a1, a2⟩ := h1; obtain ⟨b1, b2⟩ := h2; obtain ⟨c1, c2⟩ := h3; obtain ⟨d1, d2⟩ := h4
  rw [cmpI_neg]; simp only [IntKind.wrap_u64]; unfold hi lo wv addB MM
  refine ⟨by omega, by omega, ?_⟩
  rw [decide_eq_decide]; omega

set_option maxHeartbeats 400000 in
theorem add_any (ah al bh bl : Int) (h1 : Word ah) (h2 : Word al) (h3 : Word bh) (h4 : Word bl) (w : World) :
    Calls Try.prog 35 #[.agg #[.int .u64 ah, .int .u64 al], .agg #[.int .u64 bh, .int .u64 bl]] w fun e w' =>
      e = .returned (.tuple #[.agg #[.int .u64 (hi (wv ah al + wv bh bl)), .int .u64 (lo (wv ah al + wv bh bl))], .bool (addB (wv ah al) (wv bh bl))]) ∧ Below w.heap.size w w' := by
  have h1' := h1; have h2' := h2; have h3' := h3; have h4' := h4
  have hw := word_wrap (ah + bh)
  have hw1 := word_wrap (IntKind.u64.wrap (ah + bh) + 1)
  have hw2 := word_wrap (al + bl)
  have hl : al + bl < 18446744073709551616 → Word (al + bl) := fun h => ⟨by have := h2.1; have := h4.1; omega, h⟩
  by_cases hc : al + bl < 18446744073709551616
  · have hl := hl hc
    obtain ⟨P1, P2, P3⟩ := add_pure0 ah al bh bl h1 h2 h3 h4 hc
    rw [P1, P2, ← P3]; clear P1 P2 P3
    obtain ⟨a1, a2⟩ := h1; obtain ⟨b1, b2⟩ := h2; obtain ⟨c1, c2⟩ := h3; obtain ⟨d1, d2⟩ := h4
    go_enter Try.func35, Try.ntmps35
    go_wp2
    go_region_held3 (fun w' => w'.cell? ⟨w.heap.size + 1 + 1 + 1, 0, none⟩ = some (.int .u64 (IntKind.u64.wrap (ah + bh))) ∧ w'.cell? ⟨w.heap.size + 1 + 1 + 1, 1, none⟩ = some (.int .u64 (al + bl)) ∧ w'.cell? ⟨w.heap.size, 0, none⟩ = some (.int .u64 ah) ∧ w'.cell? ⟨w.heap.size, 1, none⟩ = some (.int .u64 al)) (first | (simp [go_sem, World.cell?_alloc_past]; done) | ((repeat' apply And.intro) <;> (repeat (first | assumption | (simp only [World.cell?_drew]) | (with_reducible refine (World.cell?_setCell_far _ _ _ _ ?h).trans ?_; case h => first | omega | (simp; done) | (simp; omega)) | (with_reducible refine (hb4.cell ?h).trans ?_; case h => first | omega | (simp; done) | (simp; omega)) | (with_reducible refine (hb3.cell ?h).trans ?_; case h => first | omega | (simp; done) | (simp; omega)) | (with_reducible refine (hb2.cell ?h).trans ?_; case h => first | omega | (simp; done) | (simp; omega)) | (with_reducible refine (hb.cell ?h).trans ?_; case h => first | omega | (simp; done) | (simp; omega)) | (with_reducible refine (hb0.cell ?h).trans ?_; case h => first | omega | (simp; done) | (simp; omega)))) <;> (try (simp [go_sem, World.cell?_alloc_past]))))
      (first
        | (go_at_call 29; refine (cmp_any _ _ _ _ hw hl h1' h2' _).mono ?_; rintro e w' ⟨rfl, hb⟩; obtain ⟨q1, q2⟩ := bcell hb))
    go_wp2
    refine bodyPost_ret (v := .tuple #[.agg #[.int .u64 (IntKind.u64.wrap (ah + bh)), .int .u64 (al + bl)], .bool (decide (cmpI (wv (IntKind.u64.wrap (ah + bh)) (al + bl)) (wv ah al) < 0))]) (by simp [results, Try.results35, go_sem, q1]) rfl ⟨rfl, ?_⟩
    refine Below.setCell (Below.setCell (Below.trans ?_ (hb.mono (by simp <;> omega))) (by simp <;> omega) _) (by simp <;> omega) _
    exact (by repeat (first | exact Below.refl _ _ | assumption | (with_reducible refine Below.setCell ?_ ?h _; case h => first | omega | (simp; done) | (simp; omega)) | (with_reducible refine Below.alloc ?_ ?h _; case h => first | omega | (simp; done) | (simp; omega)) | (with_reducible refine Below.drew ?_) | (with_reducible refine Below.trans ?_ (hb4.mono ?h); case h => first | omega | (simp; done) | (simp; omega)) | (with_reducible refine Below.trans ?_ (hb3.mono ?h); case h => first | omega | (simp; done) | (simp; omega)) | (with_reducible refine Below.trans ?_ (hb2.mono ?h); case h => first | omega | (simp; done) | (simp; omega)) | (with_reducible refine Below.trans ?_ (hb.mono ?h); case h => first | omega | (simp; done) | (simp; omega)) | (with_reducible refine Below.trans ?_ (hb0.mono ?h); case h => first | omega | (simp; done) | (simp; omega))))
  · obtain ⟨P1, P2, P3⟩ := add_pure1 ah al bh bl h1 h2 h3 h4 hc
    rw [P1, P2, ← P3]; clear P1 P2 P3
    obtain ⟨a1, a2⟩ := h1; obtain ⟨b1, b2⟩ := h2; obtain ⟨c1, c2⟩ := h3; obtain ⟨d1, d2⟩ := h4
    have hlt : IntKind.u64.wrap (al + bl) < al := by rw [IntKind.wrap_u64]; omega
    go_enter Try.func35, Try.ntmps35
    go_wp2
    go_region_held3 (fun w' => w'.cell? ⟨w.heap.size + 1 + 1 + 1, 0, none⟩ = some (.int .u64 (IntKind.u64.wrap (IntKind.u64.wrap (ah + bh) + 1))) ∧ w'.cell? ⟨w.heap.size + 1 + 1 + 1, 1, none⟩ = some (.int .u64 (IntKind.u64.wrap (al + bl))) ∧ w'.cell? ⟨w.heap.size, 0, none⟩ = some (.int .u64 ah) ∧ w'.cell? ⟨w.heap.size, 1, none⟩ = some (.int .u64 al)) (first | (simp [go_sem, World.cell?_alloc_past]; done) | ((repeat' apply And.intro) <;> (repeat (first | assumption | (simp only [World.cell?_drew]) | (with_reducible refine (World.cell?_setCell_far _ _ _ _ ?h).trans ?_; case h => first | omega | (simp; done) | (simp; omega)) | (with_reducible refine (hb4.cell ?h).trans ?_; case h => first | omega | (simp; done) | (simp; omega)) | (with_reducible refine (hb3.cell ?h).trans ?_; case h => first | omega | (simp; done) | (simp; omega)) | (with_reducible refine (hb2.cell ?h).trans ?_; case h => first | omega | (simp; done) | (simp; omega)) | (with_reducible refine (hb.cell ?h).trans ?_; case h => first | omega | (simp; done) | (simp; omega)) | (with_reducible refine (hb0.cell ?h).trans ?_; case h => first | omega | (simp; done) | (simp; omega)))) <;> (try (simp [go_sem, World.cell?_alloc_past]))))
      (first
        | (go_at_call 29; refine (cmp_any _ _ _ _ hw1 hw2 h1' h2' _).mono ?_; rintro e w' ⟨rfl, hb⟩; obtain ⟨q1, q2⟩ := bcell hb))
    go_wp2
    refine bodyPost_ret (v := .tuple #[.agg #[.int .u64 (IntKind.u64.wrap (IntKind.u64.wrap (ah + bh) + 1)), .int .u64 (IntKind.u64.wrap (al + bl))], .bool (decide (cmpI (wv (IntKind.u64.wrap (IntKind.u64.wrap (ah + bh) + 1)) (IntKind.u64.wrap (al + bl))) (wv ah al) < 0))]) (by simp [results, Try.results35, go_sem, q1]) rfl ⟨rfl, ?_⟩
    refine Below.setCell (Below.setCell (Below.trans ?_ (hb.mono (by simp <;> omega))) (by simp <;> omega) _) (by simp <;> omega) _
    exact (by repeat (first | exact Below.refl _ _ | assumption | (with_reducible refine Below.setCell ?_ ?h _; case h => first | omega | (simp; done) | (simp; omega)) | (with_reducible refine Below.alloc ?_ ?h _; case h => first | omega | (simp; done) | (simp; omega)) | (with_reducible refine Below.drew ?_) | (with_reducible refine Below.trans ?_ (hb4.mono ?h); case h => first | omega | (simp; done) | (simp; omega)) | (with_reducible refine Below.trans ?_ (hb3.mono ?h); case h => first | omega | (simp; done) | (simp; omega)) | (with_reducible refine Below.trans ?_ (hb2.mono ?h); case h => first | omega | (simp; done) | (simp; omega)) | (with_reducible refine Below.trans ?_ (hb.mono ?h); case h => first | omega | (simp; done) | (simp; omega)) | (with_reducible refine Below.trans ?_ (hb0.mono ?h); case h => first | omega | (simp; done) | (simp; omega))))

theorem hi_addmod (A B : Int) : hi (A % MM + B % MM) = hi (A + B) := hi_congr (by simp)
theorem lo_addmod (A B : Int) : lo (A % MM + B % MM) = lo (A + B) := lo_congr (by simp)
theorem add_h (A B : Int) (w : World) :
    Calls Try.prog 35 #[.agg #[.int .u64 (hi A), .int .u64 (lo A)], .agg #[.int .u64 (hi B), .int .u64 (lo B)]] w fun e w' =>
      e = .returned (.tuple #[.agg #[.int .u64 (hi (A + B)), .int .u64 (lo (A + B))], .bool (addB (A % MM) (B % MM))]) ∧ Below w.heap.size w w' := by
  have h := add_any (hi A) (lo A) (hi B) (lo B) (word_hi _) (word_lo _) (word_hi _) (word_lo _) w
  rw [wv_hi_lo, wv_hi_lo, hi_addmod, lo_addmod] at h
  exact h
theorem cmp_h (A B : Int) (w : World) :
    Calls Try.prog 29 #[.agg #[.int .u64 (hi A), .int .u64 (lo A)], .agg #[.int .u64 (hi B), .int .u64 (lo B)]] w fun e w' =>
      e = .returned (.int .i64 (cmpI (A % MM) (B % MM))) ∧ Below w.heap.size w w' := by
  have h := cmp_any (hi A) (lo A) (hi B) (lo B) (word_hi _) (word_lo _) (word_hi _) (word_lo _) w
  rw [wv_hi_lo, wv_hi_lo] at h
  exact h
end Go.Proofs.Ythohpcbfohlmhaa
namespace Go.Proofs.Ythohpcbfohlmhaa
set_option linter.unusedVariables false
set_option linter.unusedSimpArgs false
theorem bitLen_bounds : ∀ x : Nat, x ≠ 0 → x < 2 ^ 64 → 2 ^ (Lib.bitLen x - 1) ≤ x ∧ x < 2 ^ Lib.bitLen x ∧ 1 ≤ Lib.bitLen x := by
  intro x
  induction x using Nat.strongRecOn with
  | ind x ih =>
    intro h0 h1
    have e := Lib.bitLen_half x h0 h1
    by_cases h2 : x / 2 = 0
    · have hx : x = 1 := by omega
      subst hx; decide +kernel
    · obtain ⟨a, b, c⟩ := ih (x / 2) (by omega) h2 (by omega)
      rw [e]
      generalize Lib.bitLen (x / 2) = k at *
      have p1 : 2 ^ (1 + k - 1) = 2 ^ (k - 1) * 2 := by rw [← Nat.pow_succ]; congr 1; omega
      have p2 : 2 ^ (1 + k) = 2 ^ k * 2 := by rw [Nat.add_comm, Nat.pow_succ]
      rw [p1, p2]
      omega
theorem lz_norm (y : Int) (h0 : 0 < y) (h1 : y < 18446744073709551616) : ∃ s : Nat, s ≤ 63 ∧ (64 - (Lib.bitLen y.toNat : Int)) = (s : Int) ∧ 9223372036854775808 ≤ y * 2 ^ s ∧ y * 2 ^ s < 18446744073709551616 := by
  obtain ⟨n, rfl⟩ := Int.eq_ofNat_of_zero_le (Int.le_of_lt h0)
  obtain ⟨a, b, c⟩ := bitLen_bounds n (by omega) (by omega)
  have d := Lib.bitLen_le n 64 (by omega) (by omega)
  rw [Int.toNat_natCast]
  generalize Lib.bitLen n = k at *
  refine ⟨64 - k, by omega, by omega, ?_, ?_⟩
  · have e1 : 2 ^ (k - 1) * 2 ^ (64 - k) = 2 ^ 63 := by rw [← Nat.pow_add]; congr 1; omega
    have e2 : 2 ^ (k - 1) * 2 ^ (64 - k) ≤ n * 2 ^ (64 - k) := Nat.mul_le_mul_right _ a
    have e3 : ((n * 2 ^ (64 - k) : Nat) : Int) = (n : Int) * 2 ^ (64 - k) := by simp
    rw [← e3]; omega
  · have e1 : 2 ^ k * 2 ^ (64 - k) = 2 ^ 64 := by rw [← Nat.pow_add]; congr 1; omega
    have e2 : n * 2 ^ (64 - k) < 2 ^ k * 2 ^ (64 - k) := Nat.mul_lt_mul_of_pos_right b (Nat.two_pow_pos _)
    have e3 : ((n * 2 ^ (64 - k) : Nat) : Int) = (n : Int) * 2 ^ (64 - k) := by simp
    rw [← e3]; omega
/-- what holds of the guess q and of what is left r ahead of each round -/
structure Kn (u n y1 y0 q r : Int) : Prop where
  a1 : 2147483648 ≤ y1
  a2 : y1 < 4294967296
  b1 : 0 ≤ y0
  b2 : y0 < 4294967296
  u0 : 0 ≤ u
  u1 : u < y1 * 4294967296 + y0
  n0 : 0 ≤ n
  n1 : n < 4294967296
  q1 : q ≤ 4294967297
  r0 : 0 ≤ r
  e : q * y1 + r = u
  le : (u * 4294967296 + n) / (y1 * 4294967296 + y0) ≤ q
theorem ediv_le_of {N Y q : Int} (hY : 0 < Y) (h : N < (q + 1) * Y) : N / Y ≤ q := by
  have := (Int.ediv_lt_iff_lt_mul hY).2 h; omega
theorem Kn.start {u n y1 y0 : Int} (a1 : 2147483648 ≤ y1) (a2 : y1 < 4294967296) (b1 : 0 ≤ y0) (b2 : y0 < 4294967296) (u0 : 0 ≤ u) (u1 : u < y1 * 4294967296 + y0) (n0 : 0 ≤ n) (n1 : n < 4294967296) :
    Kn u n y1 y0 (u / y1) (u - u / y1 * y1) ∧ 0 ≤ u / y1 ∧ u - u / y1 * y1 < 4294967296 := by
  have e := Int.emod_add_mul_ediv u y1
  have m0 := Int.emod_nonneg u (b := y1) (by omega)
  have m1 := Int.emod_lt_of_pos u (b := y1) (by omega)
  have q0 : 0 ≤ u / y1 := Int.ediv_nonneg u0 (by omega)
  have hc : y1 * (u / y1) = u / y1 * y1 := Int.mul_comm _ _
  have q1 : u / y1 < 4294967298 := (Int.ediv_lt_iff_lt_mul (by omega)).2 (by omega)
  have hle : (u * 4294967296 + n) / (y1 * 4294967296 + y0) ≤ u / y1 := by
    refine ediv_le_of (by omega) ?_
    have h3 : 0 ≤ (u / y1 + 1) * y0 := Int.mul_nonneg (by omega) b1
    have h4 : (u / y1 + 1) * (y1 * 4294967296 + y0) = (u / y1 * y1 + y1) * 4294967296 + (u / y1 + 1) * y0 := by rw [Int.mul_add, ← Int.mul_assoc, Int.add_mul (u / y1) 1 y1, Int.one_mul]
    omega
  exact ⟨⟨a1, a2, b1, b2, u0, u1, n0, n1, by omega, by omega, by omega, hle⟩, q0, by omega⟩
theorem Kn.stop {u n y1 y0 q r : Int} (h : Kn u n y1 y0 q r) (hq : q * y0 ≤ 4294967296 * r + n) : q = (u * 4294967296 + n) / (y1 * 4294967296 + y0) := by
  obtain ⟨a1, a2, b1, b2, u0, u1, n0, n1, q1, r0, e, le⟩ := h
  have h1 : q * (y1 * 4294967296 + y0) = q * y1 * 4294967296 + q * y0 := by rw [Int.mul_add, ← Int.mul_assoc]
  have h2 : q ≤ (u * 4294967296 + n) / (y1 * 4294967296 + y0) := (Int.le_ediv_iff_mul_le (by omega)).2 (by omega)
  omega
theorem Kn.lt {u n y1 y0 q r : Int} (h : Kn u n y1 y0 q r) : (u * 4294967296 + n) / (y1 * 4294967296 + y0) < 4294967296 := by
  obtain ⟨a1, a2, b1, b2, u0, u1, n0, n1, q1, r0, e, le⟩ := h
  exact (Int.ediv_lt_iff_lt_mul (by omega)).2 (by omega)
theorem Kn.nonneg {u n y1 y0 q r : Int} (h : Kn u n y1 y0 q r) : 0 ≤ (u * 4294967296 + n) / (y1 * 4294967296 + y0) := by
  obtain ⟨a1, a2, b1, b2, u0, u1, n0, n1, q1, r0, e, le⟩ := h
  exact Int.ediv_nonneg (by omega) (by omega)
theorem Kn.step {u n y1 y0 q r : Int} (h : Kn u n y1 y0 q r) (hq : 4294967296 ≤ q ∨ 4294967296 * r + n < q * y0) : Kn u n y1 y0 (q - 1) (r + y1) := by
  have hlt := h.lt
  obtain ⟨a1, a2, b1, b2, u0, u1, n0, n1, q1, r0, e, le⟩ := h
  refine ⟨a1, a2, b1, b2, u0, u1, n0, n1, by omega, by omega, by rw [Int.sub_mul]; omega, ?_⟩
  rcases hq with hq | hq
  · omega
  · have h1 : q * (y1 * 4294967296 + y0) = q * y1 * 4294967296 + q * y0 := by rw [Int.mul_add, ← Int.mul_assoc]
    have h2 : (u * 4294967296 + n) / (y1 * 4294967296 + y0) < q := (Int.ediv_lt_iff_lt_mul (by omega)).2 (by omega)
    omega
theorem Kn.out {u n y1 y0 q r : Int} (h : Kn u n y1 y0 q r) (hq : q ≤ 4294967296) (hr : 4294967296 ≤ r) : q = (u * 4294967296 + n) / (y1 * 4294967296 + y0) := by
  refine h.stop ?_
  obtain ⟨a1, a2, b1, b2, u0, u1, n0, n1, q1, r0, e, le⟩ := h
  have h1 : q * y0 ≤ 4294967296 * y0 := Int.mul_le_mul_of_nonneg_right hq b1
  omega
/-- the two steps together -/
theorem knuth (U Y un1 un0 u q1 v q0 : Int) (y0 : 0 < Y) (h1 : u * 18446744073709551616 + un1 * 4294967296 + un0 = U) (e1 : q1 = (u * 4294967296 + un1) / Y) (e2 : v = (u * 4294967296 + un1) % Y) (e3 : q0 = (v * 4294967296 + un0) / Y) :
    q1 * 4294967296 + q0 = U / Y ∧ (v * 4294967296 + un0) % Y = U % Y := by
  have d1 := Int.emod_add_mul_ediv (u * 4294967296 + un1) Y
  rw [← e1, ← e2] at d1
  have d2 : U = (v * 4294967296 + un0) + Y * (q1 * 4294967296) := by rw [← Int.mul_assoc]; omega
  rw [d2, Int.add_mul_ediv_left _ _ (Int.ne_of_gt y0), Int.add_mul_emod_self_left, ← e3]
  exact ⟨by omega, rfl⟩
/-- shifted there and back -/
theorem shifted (A y P : Int) (y0 : 0 < y) (hP : 0 < P) : A * P / (y * P) = A / y ∧ A * P % (y * P) / P = A % y := by
  rw [Int.mul_ediv_mul_of_pos_left A y hP, Int.mul_comm A P, Int.mul_comm y P, Int.mul_emod_mul_of_pos A y hP, Int.mul_comm P (A % y), Int.mul_ediv_cancel _ (Int.ne_of_gt hP)]
  exact ⟨rfl, rfl⟩
end Go.Proofs.Ythohpcbfohlmhaa
namespace Go.Proofs
open Go.Shelf
def Try.lays134_ren : Go.Shelf.Ren := ⟨fun | 134 => 39 | 129 => 40 | n => n, fun | 53 => 22 | 3 => 3 | 4 => 4 | 46 => 60 | 5 => 5 | 9 => 9 | n => n, fun | n => n⟩
theorem Try.lays134 : Go.Proofs.Lays.n134 Try.prog Try.lays134_ren := {
  mixed := by kernel_rfl
  f129 := Try.func40.trans (congrArg some (by kernel_rfl))
  f134 := Try.func39.trans (congrArg some (by kernel_rfl))
  t3 := Try.underlying3
  a3 := Try.isAgg3
  z3 := Try.sizeOf3
  v3 := Try.zeroValue3
  t4 := Try.underlying4
  a4 := Try.isAgg4
  z4 := Try.sizeOf4
  v4 := Try.zeroValue4
  t5 := Try.underlying5
  a5 := Try.isAgg5
  z5 := Try.sizeOf5
  v5 := Try.zeroValue5
  t9 := Try.underlying9
  a9 := Try.isAgg9
  z9 := Try.sizeOf9
  v9 := Try.zeroValue9
  t46 := Try.underlying60
  a46 := Try.isAgg60
  z46 := Try.sizeOf60
  v46 := Try.zeroValue60
  t53 := Try.underlying22
  a53 := Try.isAgg22
  z53 := Try.sizeOf22
  v53 := Try.zeroValue22 }
theorem Try.bits_LeadingZeros64 (x : Int) (w : World) (h0 : 0 ≤ x) (h1 : x ≤ 18446744073709551615) :
    Calls Try.prog 39 #[.int .u64 x] w fun e w' => e = .returned (.int .i64 (64 - (Lib.bitLen x.toNat : Int))) ∧ w' = w := Any.bits_LeadingZeros64 Try.lays134 x w h0 h1
def Try.lays129_ren : Go.Shelf.Ren := ⟨fun | 129 => 40 | n => n, fun | 53 => 22 | 3 => 3 | 4 => 4 | 46 => 60 | 5 => 5 | 9 => 9 | n => n, fun | n => n⟩
end Go.Proofs
namespace Go.Proofs.Ythohpcbfohlmhaa
set_option linter.unusedVariables false
set_option linter.unusedSimpArgs false
open Go.RowKit
theorem and32x (x : Int) (h0 : 0 ≤ x) (h1 : x < 18446744073709551616) : bits .and .u64 x 4294967295 = x % 4294967296 := by
  rw [bits_and_w ⟨h0, h1⟩ ⟨by omega, by omega⟩]
  unfold andI
  rw [show (4294967295 : Int).toNat = 2 ^ 32 - 1 by decide, Nat.and_two_pow_sub_one_eq_mod]
  omega
set_option maxRecDepth 100000 in
set_option maxHeartbeats 4000000 in
theorem div64_t (h l y : Int) (h0 : 0 ≤ h) (h1 : h < y) (l0 : 0 ≤ l) (l1 : l < 18446744073709551616) (y1 : y < 18446744073709551616) (w : World) : Calls Try.prog 32 #[.int .u64 h, .int .u64 l, .int .u64 y] w fun e w' => e = .returned (.tuple #[.int .u64 ((h * 18446744073709551616 + l) / y), .int .u64 ((h * 18446744073709551616 + l) % y)]) ∧ Below w.heap.size w w' := by
  have y0 : ¬ y = 0 := by omega
  have yb : (y == 0) = false := by simpa using y0
  have hq : ¬ y ≤ h := by omega
  by_cases hz : h = 0
  · subst hz
    go_enter Try.func32, Try.ntmps32
    go_wp2_with fail
    go_quiet (fail)
    go_wp2
    exact bodyPost_ret (v := .tuple #[.int .u64 (l / y), .int .u64 (l % y)]) (by simp [results, Try.results32, go_sem]) rfl ⟨by rw [Int.zero_mul, Int.zero_add], below_drewN (Below.refl _ _) _⟩
  · have hz' : (h == 0) = false := by simpa using hz
    obtain ⟨s, s1, hs, n0, n1⟩ := lz_norm y (by omega) y1
    have sw : IntKind.u64.wrap (s : Int) = s := by rw [IntKind.wrap_u64]; omega
    have sd : IntKind.u64.wrap (64 - (s : Int)) = 64 - s := by rw [IntKind.wrap_u64]; omega
    have s2 : (0 : Int) ≤ s := by omega
    have s3 : (s : Int) ≤ 63 := by omega
    have sp : (0 : Int) < 2 ^ s := Int.pow_pos (by decide)
    obtain ⟨P1, P2⟩ := shl_pure h l s ⟨h0, by omega⟩ ⟨l0, l1⟩ s2 (by omega)
    rw [Int.toNat_natCast, show (64 - (s : Int)).toNat = 64 - s by omega] at P1
    rw [Int.toNat_natCast] at P2
    obtain ⟨S1, S2⟩ := shifted (wv h l) y (2 ^ s) (by omega) sp
    have uY : wv h l * 2 ^ s < (y * 2 ^ s) * 18446744073709551616 := by
      have a1 : wv h l < y * 18446744073709551616 := by unfold wv; omega
      have a2 := Int.mul_lt_mul_of_pos_right a1 sp
      rw [Int.mul_assoc, Int.mul_comm 18446744073709551616, ← Int.mul_assoc] at a2; exact a2
    have u0 : 0 ≤ wv h l * 2 ^ s := Int.mul_nonneg (by unfold wv; omega) (Int.le_of_lt sp)
    have wY : IntKind.u64.wrap (y * 2 ^ s) = y * 2 ^ s := by rw [IntKind.wrap_u64]; omega
    unfold wv at S1 S2
    generalize hA : (h * 18446744073709551616 + l) / y = A at *
    generalize hB : (h * 18446744073709551616 + l) % y = B at *
    rw [← wv] at S1 S2
    clear hA hB
    generalize hYs : y * 2 ^ s = Y at S1 S2 uY n0 n1
    rw [hYs] at wY
    have wY' : IntKind.u64.wrap (y * 2 ^ s) = Y := by rw [hYs]; exact wY
    clear hYs wY
    generalize wv h l * 2 ^ s = U at *
    have Q1 : hi U = U / 18446744073709551616 := by unfold hi; omega
    have Q2 : lo U = U % 18446744073709551616 := rfl
    rw [Q1] at P1
    rw [Q2] at P2
    clear Q1 Q2
    have hU : U / 18446744073709551616 * 18446744073709551616 + U % 18446744073709551616 = U := by omega
    have uu0 : 0 ≤ U / 18446744073709551616 := by omega
    have uu1 : U / 18446744073709551616 < Y := by omega
    have mm0 : 0 ≤ U % 18446744073709551616 := by omega
    have mm1 : U % 18446744073709551616 < 18446744073709551616 := by omega
    have hm := and32x (U % 18446744073709551616) mm0 mm1
    have hY := and32x Y (by omega) n1
    generalize U / 18446744073709551616 = u at *
    generalize U % 18446744073709551616 = m at *
    clear u0 uY
    replace P1 := P1.symm
    replace P2 := P2.symm
    have em : m = m / 4294967296 * 4294967296 + m % 4294967296 := by omega
    have m1 : 0 ≤ m / 4294967296 ∧ m / 4294967296 < 4294967296 := by omega
    have m2 : 0 ≤ m % 4294967296 ∧ m % 4294967296 < 4294967296 := by omega
    have eY : Y / 4294967296 * 4294967296 + Y % 4294967296 = Y := by omega
    have t1 : 2147483648 ≤ Y / 4294967296 ∧ Y / 4294967296 < 4294967296 := by omega
    have t2 : 0 ≤ Y % 4294967296 ∧ Y % 4294967296 < 4294967296 := by omega
    have Y0 : 0 < Y := by omega
    have HU : U = u * 18446744073709551616 + m / 4294967296 * 4294967296 + m % 4294967296 := by omega
    generalize hyh : Y / 4294967296 = yh at *
    generalize Y % 4294967296 = yl at *
    generalize hk1 : m / 4294967296 = k1 at *
    generalize m % 4294967296 = k0 at *
    clear hU em n0
    obtain ⟨t1, t1'⟩ := t1
    obtain ⟨t2, t2'⟩ := t2
    obtain ⟨m1, m1'⟩ := m1
    obtain ⟨m2, m2'⟩ := m2
    have ks := Kn.start (n := k1) t1 t1' t2 t2' uu0 (by omega) m1 m1'
    have hk := fun v (v0 : 0 ≤ v) (v1 : v < Y) => Kn.start (u := v) (n := k0) t1 t1' t2 t2' v0 (by omega) m2 m2'
    have HKK := Lib.hid hk
    clear hk
    have hkn := fun q1 v q0 a b c => knuth U Y k1 k0 u q1 v q0 Y0 HU.symm a b c
    have HKN := Lib.hid hkn
    clear hkn HU
    have HS1 := Lib.hid S1; have HS2 := Lib.hid S2
    clear S1 S2
    have qq0 : 0 ≤ u / yh := ks.2.1
    have v1 : IntKind.u64.wrap (u / yh * yh) = u / yh * yh := by
      have a1 := ks.1.e; have a2 := ks.1.r0; have a3 := Int.mul_nonneg qq0 (show 0 ≤ yh by omega)
      rw [IntKind.wrap_u64]; omega
    have v2 : IntKind.u64.wrap (u - u / yh * yh) = u - u / yh * yh := by
      have a2 := ks.1.r0; have a3 := ks.2.2
      rw [IntKind.wrap_u64]; omega
    have yh0 : ¬ yh = 0 := by omega
    have yhb : (yh == 0) = false := by simpa using yh0
    have KS := Lib.hid ks
    clear ks
    go_enter Try.func32, Try.ntmps32
    go_wp2_with fail
    refine (Try.bits_LeadingZeros64 y w (by omega) (by omega)).mono ?_
    rintro e w2' ⟨rfl, rfl⟩
    rw [hs]
    clear hs
    go_upto_block 0 with fail
    go_cut [15] (fun q wx => q = .int .u64 ((u * 4294967296 + k1) / Y) ∧ wx = w2')
    case first =>
      go_wp2_with fail
      go_loopw [15, 16] (fun a b wr => ∃ q r : Int, a = .int .u64 q ∧ b = .int .u64 r ∧ Kn u k1 yh yl q r ∧ 0 ≤ q ∧ r < 4294967296 ∧ wr = w2') (fun a _ _ => (intOf a).toNat)
      case atStart => exact ⟨_, _, rfl, rfl, KS.out.1, KS.out.2.1, KS.out.2.2, rfl⟩
      case round =>
        obtain ⟨q, r, rfl, rfl, K, q0, r1, rfl⟩ := hrel
        have KH := Lib.hid K
        obtain ⟨-, -, b1, b2, -, -, n0, n1, q1, r0, -, -⟩ := K
        have x1 : IntKind.u64.wrap (r + yh) = r + yh := by rw [IntKind.wrap_u64]; omega
        by_cases c1 : 4294967296 ≤ q
        · have x2 : IntKind.u64.wrap (q - 1) = q - 1 := by rw [IntKind.wrap_u64]; omega
          have d1 : decide (4294967296 ≤ q) = true := decide_eq_true c1
          have HK := Lib.hid (KH.out.step (.inl c1))
          by_cases c3 : 4294967296 ≤ r + yh
          · have d3 : decide (4294967296 ≤ r + yh) = true := decide_eq_true c3
            go_wp2_with fail
            go_meet
            have e := HK.out.out (by omega) c3
            exact ⟨by rw [e, eY], rfl⟩
          · have d3 : decide (4294967296 ≤ r + yh) = false := decide_eq_false c3
            go_wp2_with fail
            exact ⟨⟨q - 1, r + yh, rfl, rfl, HK.out, by omega, by omega, (by first | rfl | trivial)⟩, by simp [intOf]; omega⟩
        · have d1 : decide (4294967296 ≤ q) = false := decide_eq_false c1
          have z0 : 0 ≤ q * yl := Int.mul_nonneg q0 b1
          have z1 : q * yl ≤ 4294967296 * yl := Int.mul_le_mul_of_nonneg_right (by omega) b1
          have z2 : q = 0 → q * yl = 0 := fun h => by rw [h, Int.zero_mul]
          have z3 : IntKind.u64.wrap (q * yl) = q * yl := by rw [IntKind.wrap_u64]; omega
          have hst := KH.out.stop
          have hsp := fun h => KH.out.step (.inr h)
          have HST := Lib.hid hst; have HSP := Lib.hid hsp
          clear hst hsp
          by_cases c2 : 4294967296 * r + k1 < q * yl
          · have d2 : decide (4294967296 * r + k1 < q * yl) = true := decide_eq_true c2
            have q00 : 0 < q := by omega
            have x2 : IntKind.u64.wrap (q - 1) = q - 1 := by rw [IntKind.wrap_u64]; omega
            by_cases c3 : 4294967296 ≤ r + yh
            · have d3 : decide (4294967296 ≤ r + yh) = true := decide_eq_true c3
              go_wp2_with fail
              go_meet
              have e := (HSP.out c2).out (by omega) c3
              exact ⟨by rw [e, eY], rfl⟩
            · have d3 : decide (4294967296 ≤ r + yh) = false := decide_eq_false c3
              go_wp2_with fail
              exact ⟨⟨q - 1, r + yh, rfl, rfl, HSP.out c2, by omega, by omega, (by first | rfl | trivial)⟩, by simp [intOf]; omega⟩
          · have d2 : decide (4294967296 * r + k1 < q * yl) = false := decide_eq_false c2
            go_wp2_with fail
            go_meet
            have e := HST.out (by omega)
            exact ⟨by rw [e, eY], rfl⟩

    case rest =>
      obtain ⟨rfl, rfl⟩ := hcut
      have dq := Int.emod_add_mul_ediv (u * 4294967296 + k1) Y
      have d0 := Int.emod_nonneg (u * 4294967296 + k1) (b := Y) (by omega)
      have d1 := Int.emod_lt_of_pos (u * 4294967296 + k1) (b := Y) Y0
      have d2 := KS.out.1.lt
      have d3 := KS.out.1.nonneg
      rw [eY] at d2 d3
      have hkn := fun q0 c => HKN.out _ _ q0 rfl rfl c
      have HKN2 := Lib.hid hkn
      clear hkn HKN
      clear KS v1 v2
      generalize (u * 4294967296 + k1) / Y = Q at *
      generalize (u * 4294967296 + k1) % Y = v at *
      have f3 : IntKind.u64.wrap (IntKind.u64.wrap (IntKind.u64.wrap (u * 4294967296) + k1) - IntKind.u64.wrap (Q * Y)) = v := by
        rw [Int.mul_comm Y Q] at dq
        simp only [IntKind.wrap_u64]; omega
      have ks := HKK.out v d0 d1
      have qq1 : 0 ≤ v / yh := ks.2.1
      have v1 : IntKind.u64.wrap (v / yh * yh) = v / yh * yh := by
        have a1 := ks.1.e; have a2 := ks.1.r0; have a3 := Int.mul_nonneg qq1 (show 0 ≤ yh by omega)
        rw [IntKind.wrap_u64]; omega
      have v2 : IntKind.u64.wrap (v - v / yh * yh) = v - v / yh * yh := by
        have a2 := ks.1.r0; have a3 := ks.2.2
        rw [IntKind.wrap_u64]; omega
      have KS2 := Lib.hid ks
      clear ks HKK dq
      go_upto_block 2 with fail
      go_cut [18] (fun q wx => q = .int .u64 ((v * 4294967296 + k0) / Y) ∧ wx = wc)
      case first =>
        go_wp2_with fail
        go_loopw [18, 16] (fun a b wr => ∃ q r : Int, a = .int .u64 q ∧ b = .int .u64 r ∧ Kn v k0 yh yl q r ∧ 0 ≤ q ∧ r < 4294967296 ∧ wr = wc) (fun a _ _ => (intOf a).toNat)
        case atStart => exact ⟨_, _, rfl, rfl, KS2.out.1, KS2.out.2.1, KS2.out.2.2, rfl⟩
        case round =>
          obtain ⟨q, r, rfl, rfl, K, q0, r1, rfl⟩ := hrel
          have KH := Lib.hid K
          obtain ⟨-, -, b1, b2, -, -, n0, n1, q1, r0, -, -⟩ := K
          have x1 : IntKind.u64.wrap (r + yh) = r + yh := by rw [IntKind.wrap_u64]; omega
          by_cases c1 : 4294967296 ≤ q
          · have x2 : IntKind.u64.wrap (q - 1) = q - 1 := by rw [IntKind.wrap_u64]; omega
            have d1 : decide (4294967296 ≤ q) = true := decide_eq_true c1
            have HK := Lib.hid (KH.out.step (.inl c1))
            by_cases c3 : 4294967296 ≤ r + yh
            · have d3 : decide (4294967296 ≤ r + yh) = true := decide_eq_true c3
              go_wp2_with fail
              go_meet
              have e := HK.out.out (by omega) c3
              exact ⟨by rw [e, eY], rfl⟩
            · have d3 : decide (4294967296 ≤ r + yh) = false := decide_eq_false c3
              go_wp2_with fail
              exact ⟨⟨q - 1, r + yh, rfl, rfl, HK.out, by omega, by omega, (by first | rfl | trivial)⟩, by simp [intOf]; omega⟩
          · have d1 : decide (4294967296 ≤ q) = false := decide_eq_false c1
            have z0 : 0 ≤ q * yl := Int.mul_nonneg q0 b1
            have z1 : q * yl ≤ 4294967296 * yl := Int.mul_le_mul_of_nonneg_right (by omega) b1
            have z2 : q = 0 → q * yl = 0 := fun h => by rw [h, Int.zero_mul]
            have z3 : IntKind.u64.wrap (q * yl) = q * yl := by rw [IntKind.wrap_u64]; omega
            have hst := KH.out.stop
            have hsp := fun h => KH.out.step (.inr h)
            have HST := Lib.hid hst; have HSP := Lib.hid hsp
            clear hst hsp
            by_cases c2 : 4294967296 * r + k0 < q * yl
            · have d2 : decide (4294967296 * r + k0 < q * yl) = true := decide_eq_true c2
              have q00 : 0 < q := by omega
              have x2 : IntKind.u64.wrap (q - 1) = q - 1 := by rw [IntKind.wrap_u64]; omega
              by_cases c3 : 4294967296 ≤ r + yh
              · have d3 : decide (4294967296 ≤ r + yh) = true := decide_eq_true c3
                go_wp2_with fail
                go_meet
                have e := (HSP.out c2).out (by omega) c3
                exact ⟨by rw [e, eY], rfl⟩
              · have d3 : decide (4294967296 ≤ r + yh) = false := decide_eq_false c3
                go_wp2_with fail
                exact ⟨⟨q - 1, r + yh, rfl, rfl, HSP.out c2, by omega, by omega, (by first | rfl | trivial)⟩, by simp [intOf]; omega⟩
            · have d2 : decide (4294967296 * r + k0 < q * yl) = false := decide_eq_false c2
              go_wp2_with fail
              go_meet
              have e := HST.out (by omega)
              exact ⟨by rw [e, eY], rfl⟩


      case rest =>
        obtain ⟨rfl, rfl⟩ := hcut
        have dq := Int.emod_add_mul_ediv (v * 4294967296 + k0) Y
        have e0 := Int.emod_nonneg (v * 4294967296 + k0) (b := Y) (by omega)
        have e1 := Int.emod_lt_of_pos (v * 4294967296 + k0) (b := Y) Y0
        have e2 := KS2.out.1.lt
        have e3 := KS2.out.1.nonneg
        rw [eY] at e2 e3
        have hkn := HKN2.out _ rfl
        obtain ⟨r1, r2⟩ := hkn
        clear KS2 v1 v2 HKN2
        generalize (v * 4294967296 + k0) / Y = q0 at *
        generalize (v * 4294967296 + k0) % Y = rr at *
        have f4 : IntKind.u64.wrap (IntKind.u64.wrap (IntKind.u64.wrap (v * 4294967296) + k0) - IntKind.u64.wrap (q0 * Y)) = rr := by
          rw [Int.mul_comm Y q0] at dq
          simp only [IntKind.wrap_u64]; omega
        clear dq f3
        have R1 := Lib.hid (r1.trans HS1.out)
        have R2 := Lib.hid ((congrArg (· / (2 : Int) ^ s) r2).trans HS2.out)
        clear r1 r2
        go_wp2_with fail
        exact bodyPost_ret (v := .tuple #[.int .u64 (Q * 4294967296 + q0), .int .u64 (rr / 2 ^ s)]) (by simp [results, Try.results32, go_sem]) rfl ⟨by rw [R1.out, R2.out], Below.refl _ _⟩
end Go.Proofs.Ythohpcbfohlmhaa
namespace Go.Proofs.Ythohpcbfohlmhaa
set_option linter.unusedVariables false
set_option linter.unusedSimpArgs false
open Go.RowKit
theorem sub_pure0 (ah al bh bl : Int) (h1 : Word ah) (h2 : Word al) (h3 : Word bh) (h4 : Word bl) (hc : bl ≤ al) :
    hi (wv ah al - wv bh bl) = IntKind.u64.wrap (ah - bh) ∧ lo (wv ah al - wv bh bl) = al - bl := by
  obtain ⟨a1, a2⟩ := h1; obtain ⟨b1, b2⟩ := h2; obtain ⟨c1, c2⟩ := h3; obtain ⟨d1, d2⟩ := h4
  rw [IntKind.wrap_u64]; unfold hi lo wv
  exact ⟨by omega, by omega⟩
theorem sub_pure1 (ah al bh bl : Int) (h1 : Word ah) (h2 : Word al) (h3 : Word bh) (h4 : Word bl) (hc : ¬ bl ≤ al) :
    hi (wv ah al - wv bh bl) = IntKind.u64.wrap (IntKind.u64.wrap (ah - bh) - 1) ∧ lo (wv ah al - wv bh bl) = IntKind.u64.wrap (al - bl) := by
  obtain ⟨a1, a2⟩ := h1; obtain ⟨b1, b2⟩ := h2; obtain ⟨c1, c2⟩ := h3; obtain ⟨d1, d2⟩ := h4
  simp only [IntKind.wrap_u64]; unfold hi lo wv
  exact ⟨by omega, by omega⟩
set_option maxHeartbeats 400000 in
theorem sub_any (ah al bh bl : Int) (h1 : Word ah) (h2 : Word al) (h3 : Word bh) (h4 : Word bl) (w : World) :
    Calls Try.prog 36 #[.agg #[.int .u64 ah, .int .u64 al], .agg #[.int .u64 bh, .int .u64 bl]] w fun e w' =>
      e = .returned (.tuple #[.agg #[.int .u64 (hi (wv ah al - wv bh bl)), .int .u64 (lo (wv ah al - wv bh bl))], .bool (subB (wv ah al) (wv bh bl))]) ∧ Below w.heap.size w w' := by
  have h1' := h1; have h2' := h2; have h3' := h3; have h4' := h4
  rw [show subB (wv ah al) (wv bh bl) = decide (cmpI (wv ah al) (wv bh bl) < 0) from (cmpI_neg _ _).symm]
  by_cases hc : bl ≤ al
  · obtain ⟨P1, P2⟩ := sub_pure0 ah al bh bl h1 h2 h3 h4 hc
    rw [P1, P2]; clear P1 P2
    obtain ⟨a1, a2⟩ := h1; obtain ⟨b1, b2⟩ := h2; obtain ⟨c1, c2⟩ := h3; obtain ⟨d1, d2⟩ := h4
    go_enter Try.func36, Try.ntmps36
    go_wp2
    go_region_held3 (fun w' => w'.cell? ⟨w.heap.size + 1 + 1 + 1, 0, none⟩ = some (.int .u64 (IntKind.u64.wrap (ah - bh))) ∧ w'.cell? ⟨w.heap.size + 1 + 1 + 1, 1, none⟩ = some (.int .u64 (al - bl)) ∧ w'.cell? ⟨w.heap.size, 0, none⟩ = some (.int .u64 ah) ∧ w'.cell? ⟨w.heap.size, 1, none⟩ = some (.int .u64 al) ∧ w'.cell? ⟨w.heap.size + 1, 0, none⟩ = some (.int .u64 bh) ∧ w'.cell? ⟨w.heap.size + 1, 1, none⟩ = some (.int .u64 bl)) (first | (simp [go_sem, World.cell?_alloc_past]; done) | ((repeat' apply And.intro) <;> (repeat (first | assumption | (simp only [World.cell?_drew]) | (with_reducible refine (World.cell?_setCell_far _ _ _ _ ?h).trans ?_; case h => first | omega | (simp; done) | (simp; omega)) | (with_reducible refine (hb4.cell ?h).trans ?_; case h => first | omega | (simp; done) | (simp; omega)) | (with_reducible refine (hb3.cell ?h).trans ?_; case h => first | omega | (simp; done) | (simp; omega)) | (with_reducible refine (hb2.cell ?h).trans ?_; case h => first | omega | (simp; done) | (simp; omega)) | (with_reducible refine (hb.cell ?h).trans ?_; case h => first | omega | (simp; done) | (simp; omega)) | (with_reducible refine (hb0.cell ?h).trans ?_; case h => first | omega | (simp; done) | (simp; omega)))) <;> (try (simp [go_sem, World.cell?_alloc_past]))))
      (first
        | (go_at_call 29; refine (cmp_any _ _ _ _ h1' h2' h3' h4' _).mono ?_; rintro e w' ⟨rfl, hb⟩; obtain ⟨q1, q2⟩ := bcell hb))
    go_wp2
    refine bodyPost_ret (v := .tuple #[.agg #[.int .u64 (IntKind.u64.wrap (ah - bh)), .int .u64 (al - bl)], .bool (decide (cmpI (wv ah al) (wv bh bl) < 0))]) (by simp [results, Try.results36, go_sem, q1]) rfl ⟨rfl, ?_⟩
    refine Below.setCell (Below.setCell (Below.trans ?_ (hb.mono (by simp <;> omega))) (by simp <;> omega) _) (by simp <;> omega) _
    exact (by repeat (first | exact Below.refl _ _ | assumption | (with_reducible refine Below.setCell ?_ ?h _; case h => first | omega | (simp; done) | (simp; omega)) | (with_reducible refine Below.alloc ?_ ?h _; case h => first | omega | (simp; done) | (simp; omega)) | (with_reducible refine Below.drew ?_) | (with_reducible refine Below.trans ?_ (hb4.mono ?h); case h => first | omega | (simp; done) | (simp; omega)) | (with_reducible refine Below.trans ?_ (hb3.mono ?h); case h => first | omega | (simp; done) | (simp; omega)) | (with_reducible refine Below.trans ?_ (hb2.mono ?h); case h => first | omega | (simp; done) | (simp; omega)) | (with_reducible refine Below.trans ?_ (hb.mono ?h); case h => first | omega | (simp; done) | (simp; omega)) | (with_reducible refine Below.trans ?_ (hb0.mono ?h); case h => first | omega | (simp; done) | (simp; omega))))
  · obtain ⟨P1, P2⟩ := sub_pure1 ah al bh bl h1 h2 h3 h4 hc
    rw [P1, P2]; clear P1 P2
    obtain ⟨a1, a2⟩ := h1; obtain ⟨b1, b2⟩ := h2; obtain ⟨c1, c2⟩ := h3; obtain ⟨d1, d2⟩ := h4
    go_enter Try.func36, Try.ntmps36
    go_wp2
    go_region_held3 (fun w' => w'.cell? ⟨w.heap.size + 1 + 1 + 1, 0, none⟩ = some (.int .u64 (IntKind.u64.wrap (IntKind.u64.wrap (ah - bh) - 1))) ∧ w'.cell? ⟨w.heap.size + 1 + 1 + 1, 1, none⟩ = some (.int .u64 (IntKind.u64.wrap (al - bl))) ∧ w'.cell? ⟨w.heap.size, 0, none⟩ = some (.int .u64 ah) ∧ w'.cell? ⟨w.heap.size, 1, none⟩ = some (.int .u64 al) ∧ w'.cell? ⟨w.heap.size + 1, 0, none⟩ = some (.int .u64 bh) ∧ w'.cell? ⟨w.heap.size + 1, 1, none⟩ = some (.int .u64 bl)) (first | (simp [go_sem, World.cell?_alloc_past]; done) | ((repeat' apply And.intro) <;> (repeat (first | assumption | (simp only [World.cell?_drew]) | (with_reducible refine (World.cell?_setCell_far _ _ _ _ ?h).trans ?_; case h => first | omega | (simp; done) | (simp; omega)) | (with_reducible refine (hb4.cell ?h).trans ?_; case h => first | omega | (simp; done) | (simp; omega)) | (with_reducible refine (hb3.cell ?h).trans ?_; case h => first | omega | (simp; done) | (simp; omega)) | (with_reducible refine (hb2.cell ?h).trans ?_; case h => first | omega | (simp; done) | (simp; omega)) | (with_reducible refine (hb.cell ?h).trans ?_; case h => first | omega | (simp; done) | (simp; omega)) | (with_reducible refine (hb0.cell ?h).trans ?_; case h => first | omega | (simp; done) | (simp; omega)))) <;> (try (simp [go_sem, World.cell?_alloc_past]))))
      (first
        | (go_at_call 29; refine (cmp_any _ _ _ _ h1' h2' h3' h4' _).mono ?_; rintro e w' ⟨rfl, hb⟩; obtain ⟨q1, q2⟩ := bcell hb))
    go_wp2
    refine bodyPost_ret (v := .tuple #[.agg #[.int .u64 (IntKind.u64.wrap (IntKind.u64.wrap (ah - bh) - 1)), .int .u64 (IntKind.u64.wrap (al - bl))], .bool (decide (cmpI (wv ah al) (wv bh bl) < 0))]) (by simp [results, Try.results36, go_sem, q1]) rfl ⟨rfl, ?_⟩
    refine Below.setCell (Below.setCell (Below.trans ?_ (hb.mono (by simp <;> omega))) (by simp <;> omega) _) (by simp <;> omega) _
    exact (by repeat (first | exact Below.refl _ _ | assumption | (with_reducible refine Below.setCell ?_ ?h _; case h => first | omega | (simp; done) | (simp; omega)) | (with_reducible refine Below.alloc ?_ ?h _; case h => first | omega | (simp; done) | (simp; omega)) | (with_reducible refine Below.drew ?_) | (with_reducible refine Below.trans ?_ (hb4.mono ?h); case h => first | omega | (simp; done) | (simp; omega)) | (with_reducible refine Below.trans ?_ (hb3.mono ?h); case h => first | omega | (simp; done) | (simp; omega)) | (with_reducible refine Below.trans ?_ (hb2.mono ?h); case h => first | omega | (simp; done) | (simp; omega)) | (with_reducible refine Below.trans ?_ (hb.mono ?h); case h => first | omega | (simp; done) | (simp; omega)) | (with_reducible refine Below.trans ?_ (hb0.mono ?h); case h => first | omega | (simp; done) | (simp; omega))))
theorem hi_submod (A B : Int) : hi (A % MM - B % MM) = hi (A - B) := hi_congr (by simp [Int.sub_emod])
theorem lo_submod (A B : Int) : lo (A % MM - B % MM) = lo (A - B) := lo_congr (by simp [Int.sub_emod])
theorem sub_h (A B : Int) (w : World) :
    Calls Try.prog 36 #[.agg #[.int .u64 (hi A), .int .u64 (lo A)], .agg #[.int .u64 (hi B), .int .u64 (lo B)]] w fun e w' =>
      e = .returned (.tuple #[.agg #[.int .u64 (hi (A - B)), .int .u64 (lo (A - B))], .bool (subB (A % MM) (B % MM))]) ∧ Below w.heap.size w w' := by
  have h := sub_any (hi A) (lo A) (hi B) (lo B) (word_hi _) (word_lo _) (word_hi _) (word_lo _) w
  rw [wv_hi_lo, wv_hi_lo, hi_submod, lo_submod] at h
  exact h
end Go.Proofs.Ythohpcbfohlmhaa
namespace Go.Proofs.Ythohpcbfohlmhaa
set_option linter.unusedVariables false
set_option linter.unusedSimpArgs false
def maskI (n : Int) : Int := MM - 2 ^ (128 - min n.toNat 128)
def bitI (v i : Int) : Bool := decide (0 ≤ i ∧ i < 128 ∧ v / 2 ^ (127 - i).toNat % 2 = 1)
def sameI (a b : Int) : Nat := ((List.range 128).find? fun i : Nat => bitI a i != bitI b i).getD 128

theorem word_lit (n : Int) (h0 : 0 ≤ n) (h : n < 18446744073709551616) : Word n := ⟨h0, h⟩
end Go.Proofs.Ythohpcbfohlmhaa
namespace Go.Proofs.Ythohpcbfohlmhaa
set_option linter.unusedVariables false
set_option linter.unusedSimpArgs false
open Go.RowKit
theorem bcell' {B : Nat} {W w1 : World} (hb : Below B W w1) : (∀ b o, b < B → w1.cell? ⟨b, o, none⟩ = W.cell? ⟨b, o, none⟩) ∧ (∀ b o, b < B → w1.frozen? ⟨b, o, none⟩ = W.frozen? ⟨b, o, none⟩) :=
  ⟨fun b o h => hb.cell (p := ⟨b, o, none⟩) h, fun b o h => hb.frozen (p := ⟨b, o, none⟩) h⟩
def mulA (p q r : Int) : Int := wv p q + wv (hi (wv 0 r * 4294967296)) (lo (wv 0 r * 4294967296))
theorem mod_lt_mul {x y : Int} (hx : 0 ≤ x) (hx' : x < 4294967296) (hy : 0 ≤ y) (hy' : y < 4294967296) : 0 ≤ x * y ∧ x * y ≤ 18446744065119617025 := by
  refine ⟨Int.mul_nonneg hx hy, ?_⟩
  have h1 : x * y ≤ 4294967295 * y := Int.mul_le_mul_of_nonneg_right (by omega) hy
  omega
theorem hilo_mod {x y : Int} (h : x % MM = y % MM) : hi x = hi y ∧ lo x = lo y := ⟨hi_congr h, lo_congr h⟩
theorem mul_pure (a b p q r s v : Int) (h1 : Word a) (h2 : Word b) (hp : IntKind.u64.wrap (a / 4294967296 * (b / 4294967296)) = p) (hq : IntKind.u64.wrap (a % 4294967296 * (b % 4294967296)) = q)
    (hr : IntKind.u64.wrap (a / 4294967296 * (b % 4294967296)) = r) (hs : IntKind.u64.wrap (a % 4294967296 * (b / 4294967296)) = s) (hv : mulA p q r = v) :
    hi (mulA (hi v) (lo v) s) = hi (a * b) ∧ lo (mulA (hi v) (lo v) s) = lo (a * b) := by
  obtain ⟨a1, a2⟩ := h1; obtain ⟨b1, b2⟩ := h2
  have ea : a = a / 4294967296 * 4294967296 + a % 4294967296 := by omega
  have eb : b = b / 4294967296 * 4294967296 + b % 4294967296 := by omega
  have ka := mod_lt_mul (x := a / 4294967296) (y := b / 4294967296) (by omega) (by omega) (by omega) (by omega)
  have kb := mod_lt_mul (x := a % 4294967296) (y := b % 4294967296) (by omega) (by omega) (by omega) (by omega)
  have kc := mod_lt_mul (x := a / 4294967296) (y := b % 4294967296) (by omega) (by omega) (by omega) (by omega)
  have kd := mod_lt_mul (x := a % 4294967296) (y := b / 4294967296) (by omega) (by omega) (by omega) (by omega)
  have eab : a * b = a / 4294967296 * (b / 4294967296) * 18446744073709551616 + (a / 4294967296 * (b % 4294967296)) * 4294967296 + (a % 4294967296 * (b / 4294967296)) * 4294967296 + a % 4294967296 * (b % 4294967296) := by
    generalize a / 4294967296 = x at *; generalize a % 4294967296 = y at *; generalize b / 4294967296 = z at *; generalize b % 4294967296 = u at *
    rw [ea, eb, Int.add_mul, Int.mul_add, Int.mul_add]
    rw [show x * 4294967296 * (z * 4294967296) = x * z * 18446744073709551616 by rw [show (18446744073709551616 : Int) = 4294967296 * 4294967296 by decide]; simp only [Int.mul_assoc, Int.mul_comm, Int.mul_left_comm],
      show x * 4294967296 * u = x * u * 4294967296 by simp only [Int.mul_assoc, Int.mul_comm, Int.mul_left_comm], show y * (z * 4294967296) = y * z * 4294967296 by rw [Int.mul_assoc]]
    omega
  rw [IntKind.wrap_u64] at hp hq hr hs
  refine hilo_mod ?_
  rw [eab]
  generalize a / 4294967296 * (b / 4294967296) = A at *
  generalize a % 4294967296 * (b % 4294967296) = B at *
  generalize a / 4294967296 * (b % 4294967296) = C at *
  generalize a % 4294967296 * (b / 4294967296) = D at *
  have eA : p = A := by omega
  have eB : q = B := by omega
  have eC : r = C := by omega
  have eD : s = D := by omega
  subst eA eB eC eD
  clear hp hq hr hs ea eb eab
  unfold mulA at *
  rw [wv_hi_lo] at *
  rw [wv_hi_lo]
  subst hv
  unfold wv MM at *
  omega
theorem and_low (x : Int) (h : Word x) : bits .and .u64 x 4294967295 = x % 4294967296 := by
  rw [bits_and_w h (word_lit 4294967295 (by decide) (by decide))]; unfold andI
  rw [show (4294967295 : Int).toNat = 2 ^ 32 - 1 by rfl, Nat.and_two_pow_sub_one_eq_mod]
  have := h.1; omega

set_option maxRecDepth 100000 in
set_option maxHeartbeats 800000 in
theorem mul_any (a b : Int) (h1 : Word a) (h2 : Word b) (w : World) :
    Calls Try.prog 28 #[.int .u64 a, .int .u64 b] w fun e w' =>
      e = .returned (.agg #[.int .u64 (hi (a * b)), .int .u64 (lo (a * b))]) ∧ Below w.heap.size w w' := by
  have e1 := and_low a h1
  have e2 := and_low b h2
  obtain ⟨a1, a2⟩ := h1; obtain ⟨b1, b2⟩ := h2
  go_enter Try.func28, Try.ntmps28
  go_wp2
  have wp := word_wrap (a / 4294967296 * (b / 4294967296))
  have wq := word_wrap (a % 4294967296 * (b % 4294967296))
  have wr := word_wrap (a / 4294967296 * (b % 4294967296))
  have ws := word_wrap (a % 4294967296 * (b / 4294967296))
  generalize hp : IntKind.u64.wrap (a / 4294967296 * (b / 4294967296)) = p at *
  have HP := Lib.hid hp; clear hp
  generalize hq : IntKind.u64.wrap (a % 4294967296 * (b % 4294967296)) = q at *
  have HQ := Lib.hid hq; clear hq
  generalize hr : IntKind.u64.wrap (a / 4294967296 * (b % 4294967296)) = r at *
  have wp' := wp
  go_cut [] (fun wx => wx.cell? ⟨w.heap.size + 1, 0, none⟩ = some (.int .u64 (hi (mulA p q r))) ∧ wx.cell? ⟨w.heap.size + 1, 1, none⟩ = some (.int .u64 (lo (mulA p q r))) ∧ wx.frozen? ⟨w.heap.size + 1, 0, none⟩ = false ∧ wx.frozen? ⟨w.heap.size + 1, 1, none⟩ = false ∧ Below (w.heap.size + 1) (w.alloc (.cells #[.int .u64 0, .int .u64 0] 31)) wx ∧ w.heap.size + 2 ≤ wx.heap.size)
  case first =>
    go_region_with (first
      | (go_at_call 30; refine (of_any _ _).mono ?_; rintro e w' ⟨rfl, hb⟩; obtain ⟨q1, q2⟩ := bcell hb; have hz := hb.size; (try simp at hz))
      | (go_at_call 38; refine (left_any _ _ _ (word_lit 0 (by decide) (by decide)) wr _).mono ?_; rintro e w2 ⟨rfl, hb2x⟩; have hb2 := hb.trans (hb2x.mono hb.size); obtain ⟨q3, q4⟩ := bcell hb2; have hz2 := hb2.size; (try simp at hz2))
      | (go_at_call 35; refine (add_any _ _ _ _ wp wq (word_hi _) (word_lo _) _).mono ?_; rintro e w3 ⟨rfl, hb3x⟩; have hb3 := hb2.trans (hb3x.mono hb2.size); obtain ⟨q5, q6⟩ := bcell hb3; have hz3 := hb3.size; (try simp at hz3)))
    all_goals go_wp2_with fail
    all_goals go_meet
    all_goals exact ⟨by simp [go_sem, q5, mulA], by simp [go_sem, q5, mulA], by simp [go_sem, q6], by simp [go_sem, q6], (by repeat (first | exact Below.refl _ _ | assumption | (with_reducible refine Below.setCell ?_ ?h _; case h => first | omega | (simp; done) | (simp; omega)) | (with_reducible refine Below.alloc ?_ ?h _; case h => first | omega | (simp; done) | (simp; omega)) | (with_reducible refine Below.drew ?_) | (with_reducible refine Below.trans ?_ (hb4.mono ?h); case h => first | omega | (simp; done) | (simp; omega)) | (with_reducible refine Below.trans ?_ (hb3.mono ?h); case h => first | omega | (simp; done) | (simp; omega)) | (with_reducible refine Below.trans ?_ (hb2.mono ?h); case h => first | omega | (simp; done) | (simp; omega)) | (with_reducible refine Below.trans ?_ (hb.mono ?h); case h => first | omega | (simp; done) | (simp; omega)) | (with_reducible refine Below.trans ?_ (hb0.mono ?h); case h => first | omega | (simp; done) | (simp; omega)))), by simp [World.setCell]; omega⟩
  case rest =>
    obtain ⟨hc0, hc1, hf0, hf1, hb0, hz0⟩ := hcut
    have hz1 : w.heap.size + 1 < wc.heap.size := by omega
    have hz2' : w.heap.size < wc.heap.size := by omega
    generalize hv : mulA p q r = v at hc0 hc1
    have HV : Hid (mulA p q r = v) := hv
    clear hv
    go_wp2
    generalize hs : IntKind.u64.wrap (a % 4294967296 * (b / 4294967296)) = s at *
    go_cut [] (fun wx => wx.cell? ⟨w.heap.size + 1, 0, none⟩ = some (.int .u64 (hi (mulA (hi v) (lo v) s))) ∧ wx.cell? ⟨w.heap.size + 1, 1, none⟩ = some (.int .u64 (lo (mulA (hi v) (lo v) s))) ∧ Below (w.heap.size + 1) (w.alloc (.cells #[.int .u64 0, .int .u64 0] 31)) wx)
    case first =>
      go_region_with (first
      | (go_at_call 30; refine (of_any _ _).mono ?_; rintro e w' ⟨rfl, hb⟩; obtain ⟨q1, q2⟩ := bcell hb; have hz := hb.size; (try simp at hz); have ga0 : w'.cell? ⟨w.heap.size + 1, 0, none⟩ = some (.int .u64 (hi v)) := (q1 _ _ hz1).trans hc0; have ga1 : w'.cell? ⟨w.heap.size + 1, 1, none⟩ = some (.int .u64 (lo v)) := (q1 _ _ hz1).trans hc1)
      | (go_at_call 38; refine (left_any _ _ _ (word_lit 0 (by decide) (by decide)) ws _).mono ?_; rintro e w2 ⟨rfl, hb2x⟩; have hb2 := hb.trans (hb2x.mono hb.size); obtain ⟨q3, q4⟩ := bcell hb2; have hz2 := hb2.size; (try simp at hz2); have gb0 : w2.cell? ⟨w.heap.size + 1, 0, none⟩ = some (.int .u64 (hi v)) := (q3 _ _ hz1).trans hc0; have gb1 : w2.cell? ⟨w.heap.size + 1, 1, none⟩ = some (.int .u64 (lo v)) := (q3 _ _ hz1).trans hc1)
      | (go_at_call 35; refine (add_any _ _ _ _ (word_hi _) (word_lo _) (word_hi _) (word_lo _) _).mono ?_; rintro e w3 ⟨rfl, hb3x⟩; have hb3 := hb2.trans (hb3x.mono hb2.size); obtain ⟨q5, q6⟩ := bcell hb3; have hz3 := hb3.size; (try simp at hz3); have g0 : w3.cell? ⟨w.heap.size + 1, 0, none⟩ = some (.int .u64 (hi v)) := (q5 _ _ hz1).trans hc0; have g1 : w3.cell? ⟨w.heap.size + 1, 1, none⟩ = some (.int .u64 (lo v)) := (q5 _ _ hz1).trans hc1; have g2 : w3.frozen? ⟨w.heap.size + 1, 0, none⟩ = false := (q6 _ _ hz1).trans hf0; have g3 : w3.frozen? ⟨w.heap.size + 1, 1, none⟩ = false := (q6 _ _ hz1).trans hf1; clear q1 q2 q3 q4 q5 q6))
      all_goals go_wp2_with fail
      all_goals go_meet
      all_goals exact ⟨by simp [go_sem, g0, g1, mulA], by simp [go_sem, g0, g1, mulA], (by repeat (first | exact Below.refl _ _ | assumption | (with_reducible refine Below.setCell ?_ ?h _; case h => first | omega | (simp; done) | (simp; omega)) | (with_reducible refine Below.alloc ?_ ?h _; case h => first | omega | (simp; done) | (simp; omega)) | (with_reducible refine Below.drew ?_) | (with_reducible refine Below.trans ?_ (hb4.mono ?h); case h => first | omega | (simp; done) | (simp; omega)) | (with_reducible refine Below.trans ?_ (hb3.mono ?h); case h => first | omega | (simp; done) | (simp; omega)) | (with_reducible refine Below.trans ?_ (hb2.mono ?h); case h => first | omega | (simp; done) | (simp; omega)) | (with_reducible refine Below.trans ?_ (hb.mono ?h); case h => first | omega | (simp; done) | (simp; omega)) | (with_reducible refine Below.trans ?_ (hb0.mono ?h); case h => first | omega | (simp; done) | (simp; omega))))⟩
    case rest =>
      clear hb0 hc0 hc1 hf0 hf1
      obtain ⟨hc0, hc1, hb0⟩ := hcut
      obtain ⟨r1, r2⟩ := bcell' hb0
      go_wp2
      have HR := Lib.hid hr; have HS := Lib.hid hs; clear hr hs
      have hfin := mul_pure a b p q r s v ⟨a1, a2⟩ ⟨b1, b2⟩ HP.out HQ.out HR.out HS.out HV.out
      obtain ⟨f1, f2⟩ := hfin
      refine bodyPost_ret (v := .agg #[.int .u64 (hi (mulA (hi v) (lo v) s)), .int .u64 (lo (mulA (hi v) (lo v) s))]) (by simp [results, Try.results28, go_sem, r1]) rfl ⟨by rw [f1, f2], (by repeat (first | exact Below.refl _ _ | assumption | (with_reducible refine Below.setCell ?_ ?h _; case h => first | omega | (simp; done) | (simp; omega)) | (with_reducible refine Below.alloc ?_ ?h _; case h => first | omega | (simp; done) | (simp; omega)) | (with_reducible refine Below.drew ?_) | (with_reducible refine Below.trans ?_ (hb4.mono ?h); case h => first | omega | (simp; done) | (simp; omega)) | (with_reducible refine Below.trans ?_ (hb3.mono ?h); case h => first | omega | (simp; done) | (simp; omega)) | (with_reducible refine Below.trans ?_ (hb2.mono ?h); case h => first | omega | (simp; done) | (simp; omega)) | (with_reducible refine Below.trans ?_ (hb.mono ?h); case h => first | omega | (simp; done) | (simp; omega)) | (with_reducible refine Below.trans ?_ (hb0.mono ?h); case h => first | omega | (simp; done) | (simp; omega))))⟩
end Go.Proofs.Ythohpcbfohlmhaa
namespace Go.Proofs.Ythohpcbfohlmhaa
set_option linter.unusedVariables false
set_option linter.unusedSimpArgs false
open Go.RowKit
theorem region_any {P : Program} {ops : Array Oper} {Q : Exit → Act → World → Prop} {S : World → Prop} {id : Nat} {a : Act} {w : World} (hm : P.follows .mixedOrders = true) (hS : S w.drew)
    (h : ∀ wq, S wq → wpAnyH P .any ops Q S ops.size (Array.replicate ops.size false) a wq) : (Code.region id ops true).wp P Q a w :=
  wp_region_held_drew hm hS (fun hs => h _ hs)
theorem cell_setCells_far {w : World} {g o : Nat} {vs : List Value} {a : Addr} {v : Value} (h : w.cell? a = some v) (hne : a.block ≠ g) : (w.setCells g o vs).cell? a = some v := by
  rw [World.cell?_setCells_out g vs o w a (fun e => absurd e hne)]; exact h
theorem Row.setCells_far {w : World} {g k o : Nat} {vs : List Value} {cs : Array Value} {t : TypeId} (h : Row w k cs t) (hne : k ≠ g) : Row (w.setCells g o vs) k cs t := (setCells_other hne vs o w).trans h
end Go.Proofs.Ythohpcbfohlmhaa
namespace Go.Proofs.Ythohpcbfohlmhaa
set_option linter.unusedVariables false
set_option linter.unusedSimpArgs false
open Go.RowKit
/-- which measures may be -/
def rightB (k a b : Int) : Bool := decide (1 ≤ k ∧ k ≤ 200 ∧ 1 ≤ a ∧ a ≤ b ∧ b ≤ 1048576 ∧ b < k * a)
def shareI (k n : Int) : Int := if k < 1 then 0 else n / k
def heavyB (a b x n : Int) : Bool := decide (1 ≤ a ∧ 1 ≤ b ∧ a * n ≤ b * x)
def leastI (a b n : Int) : Int := if a < 1 ∨ b < a then 0 else (a * n + (b - 1)) / b
def mostI (k a b : Int) : Int := if rightB k a b then b * k / (a * k - b) else 0
def clipI (n p m : Int) : Int := if m < p then n else if n < m - p then 0 else n - (m - p)
theorem rightB_false {k a b : Int} (h : ¬ (1 ≤ k ∧ k ≤ 200 ∧ 1 ≤ a ∧ a ≤ b ∧ b ≤ 1048576 ∧ b < k * a)) : rightB k a b = false := decide_eq_false h
theorem mul_small {k a A : Int} (h1 : 1 ≤ k) (h2 : k ≤ 200) (a0 : 0 ≤ a) (aA : a ≤ A) : 0 ≤ k * a ∧ k * a ≤ 200 * A := by
  have e1 := Int.mul_nonneg (show 0 ≤ k by omega) a0
  have e2 : k * a ≤ 200 * a := Int.mul_le_mul_of_nonneg_right h2 a0
  exact ⟨e1, by omega⟩
set_option maxHeartbeats 800000 in
theorem right12_t (k a b : Int) (w : World) : Calls Try.prog 11 #[.int .i64 k, .int .i64 a, .int .i64 b] w fun e w' => e = .returned (.bool (rightB k a b)) ∧ Below w.heap.size w w' := by
  by_cases c0 : 1 ≤ k
  case neg =>
    rw [rightB_false (by omega)]
    have d0 : decide (1 ≤ k) = false := decide_eq_false c0
    go_enter Try.func11, Try.ntmps11
    go_wp2_with fail
    exact bodyPost_ret (v := .bool false) (by simp [results, Try.results11, go_sem]) rfl ⟨rfl, (by repeat (first | exact Below.refl _ _ | assumption | (with_reducible refine Below.setCell ?_ ?h _; case h => first | omega | (simp; done) | (simp; omega)) | (with_reducible refine Below.alloc ?_ ?h _; case h => first | omega | (simp; done) | (simp; omega)) | (with_reducible refine Below.drew ?_) | (with_reducible refine Below.trans ?_ (hb4.mono ?h); case h => first | omega | (simp; done) | (simp; omega)) | (with_reducible refine Below.trans ?_ (hb3.mono ?h); case h => first | omega | (simp; done) | (simp; omega)) | (with_reducible refine Below.trans ?_ (hb2.mono ?h); case h => first | omega | (simp; done) | (simp; omega)) | (with_reducible refine Below.trans ?_ (hb.mono ?h); case h => first | omega | (simp; done) | (simp; omega)) | (with_reducible refine Below.trans ?_ (hb0.mono ?h); case h => first | omega | (simp; done) | (simp; omega))))⟩
  by_cases c1 : k ≤ 200
  case neg =>
    rw [rightB_false (by omega)]
    have d0 : decide (1 ≤ k) = true := decide_eq_true c0
    have d1 : decide (k ≤ 200) = false := decide_eq_false c1
    go_enter Try.func11, Try.ntmps11
    go_wp2_with fail
    exact bodyPost_ret (v := .bool false) (by simp [results, Try.results11, go_sem]) rfl ⟨rfl, (by repeat (first | exact Below.refl _ _ | assumption | (with_reducible refine Below.setCell ?_ ?h _; case h => first | omega | (simp; done) | (simp; omega)) | (with_reducible refine Below.alloc ?_ ?h _; case h => first | omega | (simp; done) | (simp; omega)) | (with_reducible refine Below.drew ?_) | (with_reducible refine Below.trans ?_ (hb4.mono ?h); case h => first | omega | (simp; done) | (simp; omega)) | (with_reducible refine Below.trans ?_ (hb3.mono ?h); case h => first | omega | (simp; done) | (simp; omega)) | (with_reducible refine Below.trans ?_ (hb2.mono ?h); case h => first | omega | (simp; done) | (simp; omega)) | (with_reducible refine Below.trans ?_ (hb.mono ?h); case h => first | omega | (simp; done) | (simp; omega)) | (with_reducible refine Below.trans ?_ (hb0.mono ?h); case h => first | omega | (simp; done) | (simp; omega))))⟩
  by_cases c2 : 1 ≤ a
  case neg =>
    rw [rightB_false (by omega)]
    have d0 : decide (1 ≤ k) = true := decide_eq_true c0
    have d1 : decide (k ≤ 200) = true := decide_eq_true c1
    have d2 : decide (1 ≤ a) = false := decide_eq_false c2
    go_enter Try.func11, Try.ntmps11
    go_wp2_with fail
    exact bodyPost_ret (v := .bool false) (by simp [results, Try.results11, go_sem]) rfl ⟨rfl, (by repeat (first | exact Below.refl _ _ | assumption | (with_reducible refine Below.setCell ?_ ?h _; case h => first | omega | (simp; done) | (simp; omega)) | (with_reducible refine Below.alloc ?_ ?h _; case h => first | omega | (simp; done) | (simp; omega)) | (with_reducible refine Below.drew ?_) | (with_reducible refine Below.trans ?_ (hb4.mono ?h); case h => first | omega | (simp; done) | (simp; omega)) | (with_reducible refine Below.trans ?_ (hb3.mono ?h); case h => first | omega | (simp; done) | (simp; omega)) | (with_reducible refine Below.trans ?_ (hb2.mono ?h); case h => first | omega | (simp; done) | (simp; omega)) | (with_reducible refine Below.trans ?_ (hb.mono ?h); case h => first | omega | (simp; done) | (simp; omega)) | (with_reducible refine Below.trans ?_ (hb0.mono ?h); case h => first | omega | (simp; done) | (simp; omega))))⟩
  by_cases c3 : a ≤ b
  case neg =>
    rw [rightB_false (by omega)]
    have d0 : decide (1 ≤ k) = true := decide_eq_true c0
    have d1 : decide (k ≤ 200) = true := decide_eq_true c1
    have d2 : decide (1 ≤ a) = true := decide_eq_true c2
    have d3 : decide (a ≤ b) = false := decide_eq_false c3
    go_enter Try.func11, Try.ntmps11
    go_wp2_with fail
    exact bodyPost_ret (v := .bool false) (by simp [results, Try.results11, go_sem]) rfl ⟨rfl, (by repeat (first | exact Below.refl _ _ | assumption | (with_reducible refine Below.setCell ?_ ?h _; case h => first | omega | (simp; done) | (simp; omega)) | (with_reducible refine Below.alloc ?_ ?h _; case h => first | omega | (simp; done) | (simp; omega)) | (with_reducible refine Below.drew ?_) | (with_reducible refine Below.trans ?_ (hb4.mono ?h); case h => first | omega | (simp; done) | (simp; omega)) | (with_reducible refine Below.trans ?_ (hb3.mono ?h); case h => first | omega | (simp; done) | (simp; omega)) | (with_reducible refine Below.trans ?_ (hb2.mono ?h); case h => first | omega | (simp; done) | (simp; omega)) | (with_reducible refine Below.trans ?_ (hb.mono ?h); case h => first | omega | (simp; done) | (simp; omega)) | (with_reducible refine Below.trans ?_ (hb0.mono ?h); case h => first | omega | (simp; done) | (simp; omega))))⟩
  by_cases c4 : b ≤ 1048576
  case neg =>
    rw [rightB_false (by omega)]
    have d0 : decide (1 ≤ k) = true := decide_eq_true c0
    have d1 : decide (k ≤ 200) = true := decide_eq_true c1
    have d2 : decide (1 ≤ a) = true := decide_eq_true c2
    have d3 : decide (a ≤ b) = true := decide_eq_true c3
    have d4 : decide (b ≤ 1048576) = false := decide_eq_false c4
    go_enter Try.func11, Try.ntmps11
    go_wp2_with fail
    exact bodyPost_ret (v := .bool false) (by simp [results, Try.results11, go_sem]) rfl ⟨rfl, (by repeat (first | exact Below.refl _ _ | assumption | (with_reducible refine Below.setCell ?_ ?h _; case h => first | omega | (simp; done) | (simp; omega)) | (with_reducible refine Below.alloc ?_ ?h _; case h => first | omega | (simp; done) | (simp; omega)) | (with_reducible refine Below.drew ?_) | (with_reducible refine Below.trans ?_ (hb4.mono ?h); case h => first | omega | (simp; done) | (simp; omega)) | (with_reducible refine Below.trans ?_ (hb3.mono ?h); case h => first | omega | (simp; done) | (simp; omega)) | (with_reducible refine Below.trans ?_ (hb2.mono ?h); case h => first | omega | (simp; done) | (simp; omega)) | (with_reducible refine Below.trans ?_ (hb.mono ?h); case h => first | omega | (simp; done) | (simp; omega)) | (with_reducible refine Below.trans ?_ (hb0.mono ?h); case h => first | omega | (simp; done) | (simp; omega))))⟩
  have m := mul_small c0 c1 (show 0 ≤ a by omega) (show a ≤ 1048576 by omega)
  have mw : IntKind.i64.wrap (k * a) = k * a := by rw [IntKind.wrap_i64]; omega
  have d0 : decide (1 ≤ k) = true := decide_eq_true c0
  have d1 : decide (k ≤ 200) = true := decide_eq_true c1
  have d2 : decide (1 ≤ a) = true := decide_eq_true c2
  have d3 : decide (a ≤ b) = true := decide_eq_true c3
  have d4 : decide (b ≤ 1048576) = true := decide_eq_true c4
  have e : rightB k a b = decide (b < k * a) := by unfold rightB; rw [decide_eq_decide]; exact ⟨fun h => h.2.2.2.2.2, fun h => ⟨c0, c1, c2, c3, c4, h⟩⟩
  rw [e]
  clear e m
  go_enter Try.func11, Try.ntmps11
  go_wp2_with fail
  exact bodyPost_ret (v := .bool (decide (b < k * a))) (by simp [results, Try.results11, go_sem]) rfl ⟨rfl, (by repeat (first | exact Below.refl _ _ | assumption | (with_reducible refine Below.setCell ?_ ?h _; case h => first | omega | (simp; done) | (simp; omega)) | (with_reducible refine Below.alloc ?_ ?h _; case h => first | omega | (simp; done) | (simp; omega)) | (with_reducible refine Below.drew ?_) | (with_reducible refine Below.trans ?_ (hb4.mono ?h); case h => first | omega | (simp; done) | (simp; omega)) | (with_reducible refine Below.trans ?_ (hb3.mono ?h); case h => first | omega | (simp; done) | (simp; omega)) | (with_reducible refine Below.trans ?_ (hb2.mono ?h); case h => first | omega | (simp; done) | (simp; omega)) | (with_reducible refine Below.trans ?_ (hb.mono ?h); case h => first | omega | (simp; done) | (simp; omega)) | (with_reducible refine Below.trans ?_ (hb0.mono ?h); case h => first | omega | (simp; done) | (simp; omega))))⟩
set_option maxHeartbeats 800000 in
theorem share_t (k n : Int) (k1 : k ≤ 9223372036854775807) (n0 : 0 ≤ n) (n1 : n < 18446744073709551616) (w : World) : Calls Try.prog 13 #[.int .i64 k, .int .u64 n] w fun e w' => e = .returned (.int .u64 (shareI k n)) ∧ Below w.heap.size w w' := by
  unfold shareI
  by_cases c : k < 1
  · rw [if_pos c]
    go_enter Try.func13, Try.ntmps13
    go_wp2
    exact bodyPost_ret (v := .int .u64 0) (by simp [results, Try.results13, go_sem]) rfl ⟨rfl, (by repeat (first | exact Below.refl _ _ | assumption | (with_reducible refine Below.setCell ?_ ?h _; case h => first | omega | (simp; done) | (simp; omega)) | (with_reducible refine Below.alloc ?_ ?h _; case h => first | omega | (simp; done) | (simp; omega)) | (with_reducible refine Below.drew ?_) | (with_reducible refine Below.trans ?_ (hb4.mono ?h); case h => first | omega | (simp; done) | (simp; omega)) | (with_reducible refine Below.trans ?_ (hb3.mono ?h); case h => first | omega | (simp; done) | (simp; omega)) | (with_reducible refine Below.trans ?_ (hb2.mono ?h); case h => first | omega | (simp; done) | (simp; omega)) | (with_reducible refine Below.trans ?_ (hb.mono ?h); case h => first | omega | (simp; done) | (simp; omega)) | (with_reducible refine Below.trans ?_ (hb0.mono ?h); case h => first | omega | (simp; done) | (simp; omega))))⟩
  · rw [if_neg c]
    have kw : IntKind.u64.wrap k = k := by rw [IntKind.wrap_u64]; omega
    have k0 : ¬ k = 0 := by omega
    have kb : (k == 0) = false := by simpa using k0
    have q0 : 0 ≤ n / k := Int.ediv_nonneg n0 (by omega)
    have q1 : n / k ≤ n := Int.ediv_le_self _ n0
    have qw : IntKind.u64.wrap (n / k) = n / k := by rw [IntKind.wrap_u64]; omega
    have kp : 0 ≤ k := by omega
    go_enter Try.func13, Try.ntmps13
    go_wp2
    exact bodyPost_ret (v := .int .u64 (n / k)) (by simp [results, Try.results13, go_sem]) rfl ⟨rfl, (by repeat (first | exact Below.refl _ _ | assumption | (with_reducible refine Below.setCell ?_ ?h _; case h => first | omega | (simp; done) | (simp; omega)) | (with_reducible refine Below.alloc ?_ ?h _; case h => first | omega | (simp; done) | (simp; omega)) | (with_reducible refine Below.drew ?_) | (with_reducible refine Below.trans ?_ (hb4.mono ?h); case h => first | omega | (simp; done) | (simp; omega)) | (with_reducible refine Below.trans ?_ (hb3.mono ?h); case h => first | omega | (simp; done) | (simp; omega)) | (with_reducible refine Below.trans ?_ (hb2.mono ?h); case h => first | omega | (simp; done) | (simp; omega)) | (with_reducible refine Below.trans ?_ (hb.mono ?h); case h => first | omega | (simp; done) | (simp; omega)) | (with_reducible refine Below.trans ?_ (hb0.mono ?h); case h => first | omega | (simp; done) | (simp; omega))))⟩
theorem prod_range {x y : Int} (hx : Word x) (hy : Word y) : 0 ≤ x * y ∧ x * y < MM := by
  obtain ⟨a, b⟩ := hx; obtain ⟨c, d⟩ := hy
  have e1 := Int.mul_nonneg a c
  have e2 : x * y ≤ 18446744073709551615 * y := Int.mul_le_mul_of_nonneg_right (by omega) c
  unfold MM; exact ⟨e1, by omega⟩
theorem cmp_ge {p q : Int} (p0 : 0 ≤ p) (p1 : p < MM) (q0 : 0 ≤ q) (q1 : q < MM) : decide (0 ≤ cmpI (p % MM) (q % MM)) = decide (q ≤ p) := by
  rw [Int.emod_eq_of_lt p0 p1, Int.emod_eq_of_lt q0 q1, decide_eq_decide]; unfold cmpI
  split <;> (try split) <;> omega
theorem heavyB_neg {a b x n : Int} (h : ¬ (1 ≤ a ∧ 1 ≤ b)) : heavyB a b x n = false := decide_eq_false fun ⟨h1, h2, _⟩ => h ⟨h1, h2⟩
theorem heavyB_pos {a b x n : Int} (h1 : 1 ≤ a) (h2 : 1 ≤ b) : heavyB a b x n = decide (a * n ≤ b * x) := by
  unfold heavyB; rw [decide_eq_decide]; exact ⟨fun h => h.2.2, fun h => ⟨h1, h2, h⟩⟩
set_option maxHeartbeats 800000 in
theorem heavy_t (a b x n : Int) (a1 : a ≤ 9223372036854775807) (b1 : b ≤ 9223372036854775807) (hx : Word x) (hn : Word n) (w : World) : Calls Try.prog 15 #[.int .i64 a, .int .i64 b, .int .u64 x, .int .u64 n] w fun e w' => e = .returned (.bool (heavyB a b x n)) ∧ Below w.heap.size w w' := by
  by_cases c1 : 1 ≤ a
  · by_cases c2 : 1 ≤ b
    · rw [heavyB_pos c1 c2]
      have aw : IntKind.u64.wrap a = a := by rw [IntKind.wrap_u64]; omega
      have bw : IntKind.u64.wrap b = b := by rw [IntKind.wrap_u64]; omega
      have wa : Word a := ⟨by omega, by omega⟩
      have wb : Word b := ⟨by omega, by omega⟩
      have e := cmp_ge (prod_range wb hx).1 (prod_range wb hx).2 (prod_range wa hn).1 (prod_range wa hn).2
      have d1 : decide (1 ≤ a) = true := decide_eq_true c1
      have d2 : decide (1 ≤ b) = true := decide_eq_true c2
      go_enter Try.func15, Try.ntmps15
      go_wp2_with fail
      refine (mul_any b x wb hx _).mono ?_
      rintro e w1 ⟨rfl, hx1⟩
      have hb1 : Below w.heap.size w w1 := below_step (by repeat (first | exact Below.refl _ _ | assumption | (with_reducible refine Below.setCell ?_ ?h _; case h => first | omega | (simp; done) | (simp; omega)) | (with_reducible refine Below.alloc ?_ ?h _; case h => first | omega | (simp; done) | (simp; omega)) | (with_reducible refine Below.drew ?_) | (with_reducible refine Below.trans ?_ (hb4.mono ?h); case h => first | omega | (simp; done) | (simp; omega)) | (with_reducible refine Below.trans ?_ (hb3.mono ?h); case h => first | omega | (simp; done) | (simp; omega)) | (with_reducible refine Below.trans ?_ (hb2.mono ?h); case h => first | omega | (simp; done) | (simp; omega)) | (with_reducible refine Below.trans ?_ (hb.mono ?h); case h => first | omega | (simp; done) | (simp; omega)) | (with_reducible refine Below.trans ?_ (hb0.mono ?h); case h => first | omega | (simp; done) | (simp; omega)))) hx1
      go_wp2_with fail
      refine (mul_any a n wa hn _).mono ?_
      rintro e w2 ⟨rfl, hx2⟩
      have hb2 : Below w1.heap.size w1 w2 := below_step (by repeat (first | exact Below.refl _ _ | assumption | (with_reducible refine Below.setCell ?_ ?h _; case h => first | omega | (simp; done) | (simp; omega)) | (with_reducible refine Below.alloc ?_ ?h _; case h => first | omega | (simp; done) | (simp; omega)) | (with_reducible refine Below.drew ?_) | (with_reducible refine Below.trans ?_ (hb4.mono ?h); case h => first | omega | (simp; done) | (simp; omega)) | (with_reducible refine Below.trans ?_ (hb3.mono ?h); case h => first | omega | (simp; done) | (simp; omega)) | (with_reducible refine Below.trans ?_ (hb2.mono ?h); case h => first | omega | (simp; done) | (simp; omega)) | (with_reducible refine Below.trans ?_ (hb.mono ?h); case h => first | omega | (simp; done) | (simp; omega)) | (with_reducible refine Below.trans ?_ (hb0.mono ?h); case h => first | omega | (simp; done) | (simp; omega)))) hx2
      go_wp2_with fail
      refine (cmp_h (b * x) (a * n) _).mono ?_
      rintro e w3 ⟨rfl, hx3⟩
      have hb3 : Below w2.heap.size w2 w3 := below_step (by repeat (first | exact Below.refl _ _ | assumption | (with_reducible refine Below.setCell ?_ ?h _; case h => first | omega | (simp; done) | (simp; omega)) | (with_reducible refine Below.alloc ?_ ?h _; case h => first | omega | (simp; done) | (simp; omega)) | (with_reducible refine Below.drew ?_) | (with_reducible refine Below.trans ?_ (hb4.mono ?h); case h => first | omega | (simp; done) | (simp; omega)) | (with_reducible refine Below.trans ?_ (hb3.mono ?h); case h => first | omega | (simp; done) | (simp; omega)) | (with_reducible refine Below.trans ?_ (hb2.mono ?h); case h => first | omega | (simp; done) | (simp; omega)) | (with_reducible refine Below.trans ?_ (hb.mono ?h); case h => first | omega | (simp; done) | (simp; omega)) | (with_reducible refine Below.trans ?_ (hb0.mono ?h); case h => first | omega | (simp; done) | (simp; omega)))) hx3
      go_wp2_with fail
      exact bodyPost_ret (v := .bool (decide (a * n ≤ b * x))) (by simp [results, Try.results15, go_sem]) rfl ⟨rfl, below_step (below_step hb1 hb2) hb3⟩
    · rw [heavyB_neg (fun h => c2 h.2)]
      have d1 : decide (1 ≤ a) = true := decide_eq_true c1
      have d2 : decide (1 ≤ b) = false := decide_eq_false c2
      go_enter Try.func15, Try.ntmps15
      go_wp2_with fail
      exact bodyPost_ret (v := .bool false) (by simp [results, Try.results15, go_sem]) rfl ⟨rfl, (by repeat (first | exact Below.refl _ _ | assumption | (with_reducible refine Below.setCell ?_ ?h _; case h => first | omega | (simp; done) | (simp; omega)) | (with_reducible refine Below.alloc ?_ ?h _; case h => first | omega | (simp; done) | (simp; omega)) | (with_reducible refine Below.drew ?_) | (with_reducible refine Below.trans ?_ (hb4.mono ?h); case h => first | omega | (simp; done) | (simp; omega)) | (with_reducible refine Below.trans ?_ (hb3.mono ?h); case h => first | omega | (simp; done) | (simp; omega)) | (with_reducible refine Below.trans ?_ (hb2.mono ?h); case h => first | omega | (simp; done) | (simp; omega)) | (with_reducible refine Below.trans ?_ (hb.mono ?h); case h => first | omega | (simp; done) | (simp; omega)) | (with_reducible refine Below.trans ?_ (hb0.mono ?h); case h => first | omega | (simp; done) | (simp; omega))))⟩
  · rw [heavyB_neg (fun h => c1 h.1)]
    have d1 : decide (1 ≤ a) = false := decide_eq_false c1
    go_enter Try.func15, Try.ntmps15
    go_wp2_with fail
    exact bodyPost_ret (v := .bool false) (by simp [results, Try.results15, go_sem]) rfl ⟨rfl, (by repeat (first | exact Below.refl _ _ | assumption | (with_reducible refine Below.setCell ?_ ?h _; case h => first | omega | (simp; done) | (simp; omega)) | (with_reducible refine Below.alloc ?_ ?h _; case h => first | omega | (simp; done) | (simp; omega)) | (with_reducible refine Below.drew ?_) | (with_reducible refine Below.trans ?_ (hb4.mono ?h); case h => first | omega | (simp; done) | (simp; omega)) | (with_reducible refine Below.trans ?_ (hb3.mono ?h); case h => first | omega | (simp; done) | (simp; omega)) | (with_reducible refine Below.trans ?_ (hb2.mono ?h); case h => first | omega | (simp; done) | (simp; omega)) | (with_reducible refine Below.trans ?_ (hb.mono ?h); case h => first | omega | (simp; done) | (simp; omega)) | (with_reducible refine Below.trans ?_ (hb0.mono ?h); case h => first | omega | (simp; done) | (simp; omega))))⟩
theorem div_pure (A d : Int) (h0 : 0 ≤ A) (h1 : A < MM) (d0 : 0 < d) (d1 : d < 18446744073709551616) : hi (A / d) = hi A / d ∧ lo (A / d) = (hi A % d * 18446744073709551616 + lo A) / d ∧ A % d = (hi A % d * 18446744073709551616 + lo A) % d := by
  have e := wv_hi_lo A
  rw [Int.emod_eq_of_lt h0 h1] at e
  unfold wv at e
  have a1 := hi_nonneg A
  have a2 := hi_le A
  have a3 := lo_nonneg A
  have a4 := lo_le A
  generalize hi A = H at *
  generalize lo A = L at *
  have e1 := Int.emod_add_mul_ediv H d
  have m0 := Int.emod_nonneg H (b := d) (by omega)
  have m1 := Int.emod_lt_of_pos H (b := d) d0
  have u0 : 0 ≤ H / d := Int.ediv_nonneg a1 (by omega)
  have u1 : H / d ≤ H := Int.ediv_le_self _ a1
  have q0 : 0 ≤ (H % d * 18446744073709551616 + L) / d := Int.ediv_nonneg (by omega) (by omega)
  have q1 : (H % d * 18446744073709551616 + L) / d < 18446744073709551616 := (Int.ediv_lt_iff_lt_mul d0).2 (by omega)
  have eA : A = (H % d * 18446744073709551616 + L) + d * (H / d * 18446744073709551616) := by rw [← Int.mul_assoc]; omega
  have e2 : A / d = wv (H / d) ((H % d * 18446744073709551616 + L) / d) := by
    rw [eA, Int.add_mul_ediv_left _ _ (Int.ne_of_gt d0)]; unfold wv; omega
  have e3 : A % d = (H % d * 18446744073709551616 + L) % d := by rw [eA, Int.add_mul_emod_self_left]
  rw [e2, e3]
  exact ⟨hi_wv ⟨u0, by omega⟩ ⟨q0, q1⟩, lo_wv ⟨q0, q1⟩, rfl⟩
set_option maxRecDepth 100000 in
set_option maxHeartbeats 1600000 in
theorem div0_t (x y : Int) (w : World) : Calls Try.prog 21 #[.agg #[.int .u64 x, .int .u64 y], .int .u64 0] w fun e w' => e = .returned (.tuple #[.agg #[.int .u64 0, .int .u64 0], .int .u64 0]) ∧ Below w.heap.size w w' := by
  go_enter Try.func21, Try.ntmps21
  go_wp2
  exact bodyPost_ret (v := .tuple #[.agg #[.int .u64 0, .int .u64 0], .int .u64 0]) (by simp [results, Try.results21, go_sem]) rfl ⟨rfl, (by repeat (first | exact Below.refl _ _ | assumption | (with_reducible refine Below.setCell ?_ ?h _; case h => first | omega | (simp; done) | (simp; omega)) | (with_reducible refine Below.alloc ?_ ?h _; case h => first | omega | (simp; done) | (simp; omega)) | (with_reducible refine Below.drew ?_) | (with_reducible refine Below.trans ?_ (hb4.mono ?h); case h => first | omega | (simp; done) | (simp; omega)) | (with_reducible refine Below.trans ?_ (hb3.mono ?h); case h => first | omega | (simp; done) | (simp; omega)) | (with_reducible refine Below.trans ?_ (hb2.mono ?h); case h => first | omega | (simp; done) | (simp; omega)) | (with_reducible refine Below.trans ?_ (hb.mono ?h); case h => first | omega | (simp; done) | (simp; omega)) | (with_reducible refine Below.trans ?_ (hb0.mono ?h); case h => first | omega | (simp; done) | (simp; omega))))⟩
set_option maxRecDepth 100000 in
set_option maxHeartbeats 1600000 in
theorem div_t (A d : Int) (h0 : 0 ≤ A) (h1 : A < MM) (d0 : 0 < d) (d1 : d < 18446744073709551616) (w : World) : Calls Try.prog 21 #[.agg #[.int .u64 (hi A), .int .u64 (lo A)], .int .u64 d] w fun e w' => e = .returned (.tuple #[.agg #[.int .u64 (hi (A / d)), .int .u64 (lo (A / d))], .int .u64 (A % d)]) ∧ Below w.heap.size w w' := by
  obtain ⟨p1, p2, p3⟩ := div_pure A d h0 h1 d0 d1
  rw [p1, p2, p3]
  have a1 := hi_nonneg A
  have a2 := hi_le A
  have a3 := lo_nonneg A
  have a4 := lo_le A
  generalize hi A = h at *
  generalize lo A = l at *
  clear p1 p2 p3 h0 h1
  have dz : ¬ d = 0 := by omega
  have db : (d == 0) = false := by simpa using dz
  have dp : 0 ≤ d := by omega
  have b0 := Int.emod_nonneg h (b := d) dz
  have b1 := Int.emod_lt_of_pos h (b := d) d0
  have u0 : 0 ≤ h / d := Int.ediv_nonneg a1 dp
  have u1 : h / d ≤ h := Int.ediv_le_self _ a1
  have uw : IntKind.u64.wrap (h / d) = h / d := by rw [IntKind.wrap_u64]; omega
  have rw_ : IntKind.u64.wrap (h % d) = h % d := by rw [IntKind.wrap_u64]; omega
  have hd := fun w => div64_t (h % d) l d b0 b1 a3 (by omega) d1 w
  generalize (h % d * 18446744073709551616 + l) % d = R at *
  generalize (h % d * 18446744073709551616 + l) / d = Q at *
  have et : h.tmod d = h % d := Int.tmod_eq_emod_of_nonneg a1
  have eq_ : h.tdiv d = h / d := Int.tdiv_eq_ediv_of_nonneg a1
  have hb0 : Below w.heap.size w ((w.alloc (.cells #[.int .u64 h, .int .u64 l] 31)).alloc (.cells #[.int .u64 0, .int .u64 0] 31)) := (by repeat (first | exact Below.refl _ _ | assumption | (with_reducible refine Below.setCell ?_ ?h _; case h => first | omega | (simp; done) | (simp; omega)) | (with_reducible refine Below.alloc ?_ ?h _; case h => first | omega | (simp; done) | (simp; omega)) | (with_reducible refine Below.drew ?_) | (with_reducible refine Below.trans ?_ (hb4.mono ?h); case h => first | omega | (simp; done) | (simp; omega)) | (with_reducible refine Below.trans ?_ (hb3.mono ?h); case h => first | omega | (simp; done) | (simp; omega)) | (with_reducible refine Below.trans ?_ (hb2.mono ?h); case h => first | omega | (simp; done) | (simp; omega)) | (with_reducible refine Below.trans ?_ (hb.mono ?h); case h => first | omega | (simp; done) | (simp; omega)) | (with_reducible refine Below.trans ?_ (hb0.mono ?h); case h => first | omega | (simp; done) | (simp; omega))))
  have R0 : Row ((w.alloc (.cells #[.int .u64 h, .int .u64 l] 31)).alloc (.cells #[.int .u64 0, .int .u64 0] 31)) w.heap.size #[.int .u64 h, .int .u64 l] 31 := (Row.new w _ _).alloc _
  have R1 : Row ((w.alloc (.cells #[.int .u64 h, .int .u64 l] 31)).alloc (.cells #[.int .u64 0, .int .u64 0] 31)) (w.heap.size + 1) #[.int .u64 0, .int .u64 0] 31 := by
    have := Row.new (w.alloc (.cells #[.int .u64 h, .int .u64 l] 31)) #[.int .u64 0, .int .u64 0] 31
    rwa [World.size_alloc] at this
  have HR := Lib.hid (And.intro R0 (And.intro R1 hb0))
  clear R0 R1 hb0
  go_enter Try.func21, Try.ntmps21
  go_wp2_with fail
  obtain ⟨R0, R1, hb⟩ := HR.out
  clear HR
  generalize (w.alloc (.cells #[.int .u64 h, .int .u64 l] 31)).alloc (.cells #[.int .u64 0, .int .u64 0] 31) = w0 at *
  have hR := And.intro R0 (And.intro R1 hb)
  have c0 := (R0.cell 0).trans (show _ = some (Value.int .u64 h) from rfl)
  have c1 := (R0.cell 1).trans (show _ = some (Value.int .u64 l) from rfl)
  have HR := Lib.hid hR
  clear R0 R1 hb hR
  go_cut [6, 7] (fun q r wx => q = .int .u64 Q ∧ r = .int .u64 R ∧ Row wx w.heap.size #[.int .u64 h, .int .u64 l] 31 ∧ Row wx (w.heap.size + 1) #[.int .u64 0, .int .u64 0] 31 ∧ Below w.heap.size w wx)
  case first =>
    refine region_any (S := (fun w' => w'.cell? ⟨w.heap.size, 0, none⟩ = some (.int .u64 h) ∧ w'.cell? ⟨w.heap.size, 1, none⟩ = some (.int .u64 l) ∧ Row w' w.heap.size #[.int .u64 h, .int .u64 l] 31 ∧ Row w' (w.heap.size + 1) #[.int .u64 0, .int .u64 0] 31 ∧ Below w.heap.size w w')) (by kernel_rfl) ?hSr1_ (fun wq hHeld => ?_)
    case hSr1_ => (first | exact ⟨c0, c1, HR.out.1.drew, HR.out.2.1.drew, HR.out.2.2.drew⟩ | exact ⟨cell_later hb hHeld.1, cell_later hb hHeld.2.1, hHeld.2.2.1.later hb, hHeld.2.2.2.1.later hb, below_step hHeld.2.2.2.2 hb⟩)
    refine wpAnyH_take (i := 0) (oi := { dst := some 12, op := Go.Op.fieldAddr 31 (Go.Operand.tmp 2) 0, type := 0, pos := _, after := #[], guard := none }) (v := ?vr1_1_0) rfl (by kernel_rfl) (by kernel_rfl) (by kernel_rfl) (fun _ _ _ h => h) (Or.inl ⟨by rfl, ?yr1_1_0⟩) hHeld ?_
    case yr1_1_0 => ((intro w hSw; (try dsimp only at hSw); go_simp) <;> with_reducible rfl)
    (try simp only [Act.put, List.setIfInBounds_toArray, List.set_cons_zero, List.set_cons_succ])
    refine wpAnyH_take (i := 1) (oi := { dst := some 13, op := Go.Op.load 22 (Go.Operand.tmp 12), type := 22, pos := _, after := #[{ on := 0, ground := Go.Ground.data }], guard := none }) (v := ?vr1_2_1) rfl (by kernel_rfl) (by kernel_rfl) (by kernel_rfl) (fun _ _ _ h => h) (Or.inl ⟨by rfl, ?yr1_2_1⟩) hHeld ?_
    case yr1_2_1 => ((intro w hSw; (try dsimp only at hSw); go_simp) <;> with_reducible rfl)
    (try simp only [Act.put, List.setIfInBounds_toArray, List.set_cons_zero, List.set_cons_succ])
    refine wpAnyH_take (i := 2) (oi := { dst := some 14, op := Go.Op.move (Go.Operand.tmp 1), type := 22, pos := _, after := #[], guard := none }) (v := ?vr1_3_2) rfl (by kernel_rfl) (by kernel_rfl) (by kernel_rfl) (fun _ _ _ h => h) (Or.inl ⟨by rfl, ?yr1_3_2⟩) hHeld ?_
    case yr1_3_2 => ((intro w hSw; (try dsimp only at hSw); go_simp) <;> with_reducible rfl)
    (try simp only [Act.put, List.setIfInBounds_toArray, List.set_cons_zero, List.set_cons_succ])
    refine wpAnyH_take (i := 3) (oi := { dst := some 15, op := Go.Op.binOp Go.BinOp.rem 22 (Go.Operand.tmp 13) (Go.Operand.tmp 14) 22, type := 22, pos := _, after := #[{ on := 1, ground := Go.Ground.data }, { on := 2, ground := Go.Ground.data }], guard := none }) (v := ?vr1_4_3) rfl (by kernel_rfl) (by kernel_rfl) (by kernel_rfl) (fun _ _ _ h => h) (Or.inl ⟨by rfl, ?yr1_4_3⟩) hHeld ?_
    case yr1_4_3 => ((intro w hSw; (try dsimp only at hSw); go_simp) <;> with_reducible rfl)
    (try simp only [Act.put, List.setIfInBounds_toArray, List.set_cons_zero, List.set_cons_succ])
    refine wpAnyH_take (i := 4) (oi := { dst := some 16, op := Go.Op.fieldAddr 31 (Go.Operand.tmp 2) 1, type := 0, pos := _, after := #[], guard := none }) (v := ?vr1_5_4) rfl (by kernel_rfl) (by kernel_rfl) (by kernel_rfl) (fun _ _ _ h => h) (Or.inl ⟨by rfl, ?yr1_5_4⟩) hHeld ?_
    case yr1_5_4 => ((intro w hSw; (try dsimp only at hSw); go_simp) <;> with_reducible rfl)
    (try simp only [Act.put, List.setIfInBounds_toArray, List.set_cons_zero, List.set_cons_succ])
    refine wpAnyH_take (i := 5) (oi := { dst := some 17, op := Go.Op.load 22 (Go.Operand.tmp 16), type := 22, pos := _, after := #[{ on := 4, ground := Go.Ground.data }], guard := none }) (v := ?vr1_6_5) rfl (by kernel_rfl) (by kernel_rfl) (by kernel_rfl) (fun _ _ _ h => h) (Or.inl ⟨by rfl, ?yr1_6_5⟩) hHeld ?_
    case yr1_6_5 => ((intro w hSw; (try dsimp only at hSw); go_simp) <;> with_reducible rfl)
    (try simp only [Act.put, List.setIfInBounds_toArray, List.set_cons_zero, List.set_cons_succ])
    refine wpAnyH_take (i := 6) (oi := { dst := some 18, op := Go.Op.move (Go.Operand.tmp 1), type := 22, pos := _, after := #[], guard := none }) (v := ?vr1_7_6) rfl (by kernel_rfl) (by kernel_rfl) (by kernel_rfl) (fun _ _ _ h => h) (Or.inl ⟨by rfl, ?yr1_7_6⟩) hHeld ?_
    case yr1_7_6 => ((intro w hSw; (try dsimp only at hSw); go_simp) <;> with_reducible rfl)
    (try simp only [Act.put, List.setIfInBounds_toArray, List.set_cons_zero, List.set_cons_succ])
    refine wpAnyH_ready (rs := [7]) (by kernel_rfl) (by simp) ?_
    refine AllReadyH.cons (o := { dst := some 19, op := Go.Op.call { callee := Go.Callee.value (Go.Operand.func 32), args := #[Go.Operand.tmp 15, Go.Operand.tmp 17, Go.Operand.tmp 18], argTypes := #[22, 22, 22] }, type := 53, pos := _, after := #[{ on := 3, ground := Go.Ground.data }, { on := 5, ground := Go.Ground.data }, { on := 6, ground := Go.Ground.data }], guard := none }) rfl (fun K hK => ?_) AllReadyH.nil
    go_simp
    (refine (hd _).mono ?_; rintro e wn ⟨rfl, hb⟩)
    go_wp2_with fail
    refine hK.out _ _ ?hSr1_8_7 (fun hHeld2 => ?_)
    case hSr1_8_7 => (first | exact ⟨c0, c1, HR.out.1.drew, HR.out.2.1.drew, HR.out.2.2.drew⟩ | exact ⟨cell_later hb hHeld.1, cell_later hb hHeld.2.1, hHeld.2.2.1.later hb, hHeld.2.2.2.1.later hb, below_step hHeld.2.2.2.2 hb⟩)
    clear hK K hHeld
    have hHeld := hHeld2
    clear hHeld2
    rename World => wq
    (try simp only [Act.put, List.setIfInBounds_toArray, List.set_cons_zero, List.set_cons_succ])
    refine wpAnyH_take (i := 8) (oi := { dst := some 11, op := Go.Op.move (Go.Operand.tmp 19), type := 53, pos := _, after := #[{ on := 7, ground := Go.Ground.data }], guard := none }) (v := ?vr1_9_8) rfl (by kernel_rfl) (by kernel_rfl) (by kernel_rfl) (fun _ _ _ h => h) (Or.inl ⟨by rfl, ?yr1_9_8⟩) hHeld ?_
    case yr1_9_8 => ((intro w hSw; (try dsimp only at hSw); go_simp) <;> with_reducible rfl)
    (try simp only [Act.put, List.setIfInBounds_toArray, List.set_cons_zero, List.set_cons_succ])
    refine wpAnyH_take (i := 9) (oi := { dst := some 20, op := Go.Op.extract (Go.Operand.tmp 11) 0, type := 22, pos := _, after := #[{ on := 8, ground := Go.Ground.data }], guard := none }) (v := ?vr1_10_9) rfl (by kernel_rfl) (by kernel_rfl) (by kernel_rfl) (fun _ _ _ h => h) (Or.inl ⟨by rfl, ?yr1_10_9⟩) hHeld ?_
    case yr1_10_9 => ((intro w hSw; (try dsimp only at hSw); go_simp) <;> with_reducible rfl)
    (try simp only [Act.put, List.setIfInBounds_toArray, List.set_cons_zero, List.set_cons_succ])
    refine wpAnyH_take (i := 10) (oi := { dst := some 21, op := Go.Op.extract (Go.Operand.tmp 11) 1, type := 22, pos := _, after := #[{ on := 8, ground := Go.Ground.data }, { on := 11, ground := Go.Ground.gcOnly Go.Departure.lateStores }], guard := none }) (v := ?vr1_11_10) rfl (by kernel_rfl) (by kernel_rfl) (by kernel_rfl) (fun _ _ _ h => h) (Or.inl ⟨by rfl, ?yr1_11_10⟩) hHeld ?_
    case yr1_11_10 => ((intro w hSw; (try dsimp only at hSw); go_simp) <;> with_reducible rfl)
    (try simp only [Act.put, List.setIfInBounds_toArray, List.set_cons_zero, List.set_cons_succ])
    refine wpAnyH_take (i := 11) (oi := { dst := some 6, op := Go.Op.assign (Go.Operand.tmp 20), type := 22, pos := _, after := #[{ on := 9, ground := Go.Ground.data }, { on := 7, ground := Go.Ground.chain }, { on := 0, ground := Go.Ground.phase }, { on := 1, ground := Go.Ground.phase }, { on := 2, ground := Go.Ground.phase }, { on := 3, ground := Go.Ground.phase }, { on := 4, ground := Go.Ground.phase }, { on := 5, ground := Go.Ground.phase }, { on := 6, ground := Go.Ground.phase }, { on := 7, ground := Go.Ground.phase }, { on := 8, ground := Go.Ground.phase }, { on := 9, ground := Go.Ground.phase }, { on := 10, ground := Go.Ground.textOnly Go.Departure.lateStores }], guard := none }) (v := ?vr1_12_11) rfl (by kernel_rfl) (by kernel_rfl) (by kernel_rfl) (fun _ _ _ h => h) (Or.inl ⟨by rfl, ?yr1_12_11⟩) hHeld ?_
    case yr1_12_11 => ((intro w hSw; (try dsimp only at hSw); go_simp) <;> with_reducible rfl)
    (try simp only [Act.put, List.setIfInBounds_toArray, List.set_cons_zero, List.set_cons_succ])
    refine wpAnyH_take (i := 12) (oi := { dst := some 7, op := Go.Op.assign (Go.Operand.tmp 21), type := 22, pos := _, after := #[{ on := 10, ground := Go.Ground.data }, { on := 11, ground := Go.Ground.chain }, { on := 0, ground := Go.Ground.phase }, { on := 1, ground := Go.Ground.phase }, { on := 2, ground := Go.Ground.phase }, { on := 3, ground := Go.Ground.phase }, { on := 4, ground := Go.Ground.phase }, { on := 5, ground := Go.Ground.phase }, { on := 6, ground := Go.Ground.phase }, { on := 7, ground := Go.Ground.phase }, { on := 8, ground := Go.Ground.phase }, { on := 9, ground := Go.Ground.phase }, { on := 10, ground := Go.Ground.phase }, { on := 11, ground := Go.Ground.phase }], guard := none }) (v := ?vr1_13_12) rfl (by kernel_rfl) (by kernel_rfl) (by kernel_rfl) (fun _ _ _ h => h) (Or.inl ⟨by rfl, ?yr1_13_12⟩) hHeld ?_
    case yr1_13_12 => ((intro w hSw; (try dsimp only at hSw); go_simp) <;> with_reducible rfl)
    (try simp only [Act.put, List.setIfInBounds_toArray, List.set_cons_zero, List.set_cons_succ])
    refine wpAnyH_done (by kernel_rfl) ?_ _
    (go_wp2_with fail; go_meet; exact ⟨rfl, rfl, hHeld.2.2.1, hHeld.2.2.2.1, hHeld.2.2.2.2⟩)
  case rest =>
    obtain ⟨rfl, rfl, R0, R1, hb⟩ := hcut
    clear HR c0 c1 hd
    have c0 := (R0.cell 0).trans (show _ = some (Value.int .u64 h) from rfl)
    have d0 := (R1.cell 0).trans (show _ = some (Value.int .u64 0) from rfl)
    have d1 := (R1.cell 1).trans (show _ = some (Value.int .u64 0) from rfl)
    have f0 := R1.frozen 0
    have f1 := R1.frozen 1
    have HR := Lib.hid R1
    clear R0 R1
    go_wp2
    have Rf := (HR.out.set 0 (.int .u64 (h / d))).set 1 (.int .u64 Q)
    have e0 := (Rf.cell 0).trans (show _ = some (Value.int .u64 (h / d)) from rfl)
    have e1 := (Rf.cell 1).trans (show _ = some (Value.int .u64 Q) from rfl)
    exact bodyPost_ret (v := .tuple #[.agg #[.int .u64 (h / d), .int .u64 Q], .int .u64 R]) (by simp only [results, Try.results21]; simp [go_sem, e0, e1]) rfl ⟨rfl, (hb.setCell (by dsimp only; omega) _).setCell (by dsimp only; omega) _⟩
end Go.Proofs.Ythohpcbfohlmhaa
namespace Go.Proofs.Ythohpcbfohlmhaa
set_option linter.unusedVariables false
set_option linter.unusedSimpArgs false
open Go.RowKit
theorem ceil_le {a b n : Int} (h1 : 1 ≤ a) (h2 : a ≤ b) (n0 : 0 ≤ n) : 0 ≤ (a * n + (b - 1)) / b ∧ (a * n + (b - 1)) / b ≤ n := by
  have e1 : a * n ≤ b * n := Int.mul_le_mul_of_nonneg_right h2 n0
  have e0 := Int.mul_nonneg (show 0 ≤ a by omega) n0
  refine ⟨Int.ediv_nonneg (by omega) (by omega), ?_⟩
  have e2 : (a * n + (b - 1)) / b < n + 1 := (Int.ediv_lt_iff_lt_mul (by omega)).2 (by rw [Int.add_mul, Int.one_mul, Int.mul_comm n b]; omega)
  omega
theorem ceil_pure {P b : Int} (b0 : 0 < b) : (P + (b - 1)) / b = if 0 < P % b then P / b + 1 else P / b := by
  have e := Int.emod_add_mul_ediv P b
  have m0 := Int.emod_nonneg P (b := b) (by omega)
  have m1 := Int.emod_lt_of_pos P (b := b) b0
  generalize P % b = r at *
  generalize P / b = q at *
  split
  · rw [show P + (b - 1) = (r - 1) + b * (q + 1) by rw [Int.mul_add, Int.mul_one]; omega, Int.add_mul_ediv_left _ _ (by omega), Int.ediv_eq_zero_of_lt (by omega) (by omega)]; omega
  · rw [show P + (b - 1) = (b - 1) + b * q by omega, Int.add_mul_ediv_left _ _ (by omega), Int.ediv_eq_zero_of_lt (by omega) (by omega)]; omega
theorem leastI_out {a b n : Int} (h : a < 1 ∨ b < a) : leastI a b n = 0 := if_pos h
theorem leastI_in {a b n : Int} (h1 : 1 ≤ a) (h2 : a ≤ b) : leastI a b n = (a * n + (b - 1)) / b := if_neg (by omega)
set_option maxHeartbeats 800000 in
theorem least_t (a b n : Int) (a1 : a ≤ 9223372036854775807) (b1 : b ≤ 9223372036854775807) (hn : Word n) (w : World) : Calls Try.prog 17 #[.int .i64 a, .int .i64 b, .int .u64 n] w fun e w' => e = .returned (.int .u64 (leastI a b n)) ∧ Below w.heap.size w w' := by
  by_cases c1 : a < 1
  · rw [leastI_out (.inl c1)]
    have d1 : decide (a < 1) = true := decide_eq_true c1
    go_enter Try.func17, Try.ntmps17
    go_wp2_with fail
    exact bodyPost_ret (v := .int .u64 0) (by simp [results, Try.results17, go_sem]) rfl ⟨rfl, (by repeat (first | exact Below.refl _ _ | assumption | (with_reducible refine Below.setCell ?_ ?h _; case h => first | omega | (simp; done) | (simp; omega)) | (with_reducible refine Below.alloc ?_ ?h _; case h => first | omega | (simp; done) | (simp; omega)) | (with_reducible refine Below.drew ?_) | (with_reducible refine Below.trans ?_ (hb4.mono ?h); case h => first | omega | (simp; done) | (simp; omega)) | (with_reducible refine Below.trans ?_ (hb3.mono ?h); case h => first | omega | (simp; done) | (simp; omega)) | (with_reducible refine Below.trans ?_ (hb2.mono ?h); case h => first | omega | (simp; done) | (simp; omega)) | (with_reducible refine Below.trans ?_ (hb.mono ?h); case h => first | omega | (simp; done) | (simp; omega)) | (with_reducible refine Below.trans ?_ (hb0.mono ?h); case h => first | omega | (simp; done) | (simp; omega))))⟩
  have d1 : decide (a < 1) = false := decide_eq_false c1
  by_cases c2 : b < a
  · rw [leastI_out (.inr c2)]
    have d2 : decide (b < a) = true := decide_eq_true c2
    go_enter Try.func17, Try.ntmps17
    go_wp2_with fail
    exact bodyPost_ret (v := .int .u64 0) (by simp [results, Try.results17, go_sem]) rfl ⟨rfl, (by repeat (first | exact Below.refl _ _ | assumption | (with_reducible refine Below.setCell ?_ ?h _; case h => first | omega | (simp; done) | (simp; omega)) | (with_reducible refine Below.alloc ?_ ?h _; case h => first | omega | (simp; done) | (simp; omega)) | (with_reducible refine Below.drew ?_) | (with_reducible refine Below.trans ?_ (hb4.mono ?h); case h => first | omega | (simp; done) | (simp; omega)) | (with_reducible refine Below.trans ?_ (hb3.mono ?h); case h => first | omega | (simp; done) | (simp; omega)) | (with_reducible refine Below.trans ?_ (hb2.mono ?h); case h => first | omega | (simp; done) | (simp; omega)) | (with_reducible refine Below.trans ?_ (hb.mono ?h); case h => first | omega | (simp; done) | (simp; omega)) | (with_reducible refine Below.trans ?_ (hb0.mono ?h); case h => first | omega | (simp; done) | (simp; omega))))⟩
  have d2 : decide (b < a) = false := decide_eq_false c2
  have aw : IntKind.u64.wrap a = a := by rw [IntKind.wrap_u64]; omega
  have bw : IntKind.u64.wrap b = b := by rw [IntKind.wrap_u64]; omega
  have wa : Word a := ⟨by omega, by omega⟩
  have wb : Word b := ⟨by omega, by omega⟩
  obtain ⟨p0, p1⟩ := prod_range wa hn
  have hc := ceil_le (show 1 ≤ a by omega) (show a ≤ b by omega) hn.1
  obtain ⟨n0, n1⟩ := hn
  rw [leastI_in (by omega) (by omega)]
  rw [ceil_pure (by omega)] at hc ⊢
  have dt := fun w => div_t (a * n) b p0 p1 (by omega) (by omega) w
  have q0 : 0 ≤ a * n / b := Int.ediv_nonneg p0 (by omega)
  have r0 := Int.emod_nonneg (a * n) (b := b) (by omega)
  have hm := fun w => mul_any a n wa ⟨n0, n1⟩ w
  generalize a * n / b = q at *
  generalize a * n % b = r at *
  have hl : lo q = q := by
    have : q ≤ n := by split at hc <;> omega
    unfold lo; omega
  by_cases c3 : 0 < r
  · rw [if_pos c3] at hc ⊢
    have d3 : decide (0 < r) = true := decide_eq_true c3
    have qw : IntKind.u64.wrap (lo q + 1) = q + 1 := by rw [hl, IntKind.wrap_u64]; omega
    go_enter Try.func17, Try.ntmps17
    go_wp2_with fail
    refine (hm _).mono ?_; rintro e w1 ⟨rfl, hb1⟩
    go_wp2_with fail
    refine (dt _).mono ?_; rintro e w2 ⟨rfl, hb2⟩
    go_wp2_with fail
    exact bodyPost_ret (v := .int .u64 (q + 1)) (by simp [results, Try.results17, go_sem, qw]) rfl ⟨rfl, (below_step hb1 hb2).alloc (below_step hb1 hb2).size _⟩
  · rw [if_neg c3] at hc ⊢
    have d3 : decide (0 < r) = false := decide_eq_false c3
    go_enter Try.func17, Try.ntmps17
    go_wp2_with fail
    refine (hm _).mono ?_; rintro e w1 ⟨rfl, hb1⟩
    go_wp2_with fail
    refine (dt _).mono ?_; rintro e w2 ⟨rfl, hb2⟩
    go_wp2_with fail
    exact bodyPost_ret (v := .int .u64 q) (by simp [results, Try.results17, go_sem, hl]) rfl ⟨rfl, (below_step hb1 hb2).alloc (below_step hb1 hb2).size _⟩
theorem rightB_iff {k a b : Int} : rightB k a b = true ↔ (1 ≤ k ∧ k ≤ 200 ∧ 1 ≤ a ∧ a ≤ b ∧ b ≤ 1048576 ∧ b < k * a) := by unfold rightB; exact decide_eq_true_iff
theorem mostI_no {k a b : Int} (h : rightB k a b = false) : mostI k a b = 0 := by unfold mostI; rw [h]; rfl
theorem mostI_yes {k a b : Int} (h : rightB k a b = true) : mostI k a b = b * k / (a * k - b) := by unfold mostI; rw [h]; rfl
set_option maxHeartbeats 800000 in
theorem most_t (k a b : Int) (w : World) : Calls Try.prog 19 #[.int .i64 k, .int .i64 a, .int .i64 b] w fun e w' => e = .returned (.int .i64 (mostI k a b)) ∧ Below w.heap.size w w' := by
  cases hr : rightB k a b with
  | false =>
    rw [mostI_no hr]
    have hm := fun w => right12_t k a b w
    rw [hr] at hm
    go_enter Try.func19, Try.ntmps19
    go_wp2_with fail
    refine (hm _).mono ?_; rintro e w1 ⟨rfl, hb1⟩
    go_wp2_with fail
    exact bodyPost_ret (v := .int .i64 0) (by simp [results, Try.results19, go_sem]) rfl ⟨rfl, hb1⟩
  | true =>
    rw [mostI_yes hr]
    have hm := fun w => right12_t k a b w
    rw [hr] at hm
    obtain ⟨k1, k2, a1, a2, b2, hk⟩ := rightB_iff.1 hr
    clear hr
    have ma := mul_small k1 k2 (show 0 ≤ a by omega) (show a ≤ 1048576 by omega)
    have mb := mul_small k1 k2 (show 0 ≤ b by omega) (show b ≤ 1048576 by omega)
    rw [Int.mul_comm k a] at ma hk
    rw [Int.mul_comm k b] at mb
    have w1 : IntKind.i64.wrap (b * k) = b * k := by rw [IntKind.wrap_i64]; omega
    have w2 : IntKind.i64.wrap (a * k) = a * k := by rw [IntKind.wrap_i64]; omega
    have w3 : IntKind.i64.wrap (a * k - b) = a * k - b := by rw [IntKind.wrap_i64]; omega
    have pz : ¬ (a * k - b) = 0 := by omega
    have pb : ((a * k - b) == 0) = false := by simpa using pz
    have pn : ¬ (a * k - b) = -1 := by omega
    have q0 : 0 ≤ b * k / (a * k - b) := Int.ediv_nonneg mb.1 (by omega)
    have q1 : b * k / (a * k - b) ≤ b * k := Int.ediv_le_self _ mb.1
    have et : (b * k).tdiv (a * k - b) = b * k / (a * k - b) := Int.tdiv_eq_ediv_of_nonneg mb.1
    have w4 : IntKind.i64.wrap (b * k / (a * k - b)) = b * k / (a * k - b) := by rw [IntKind.wrap_i64]; omega
    go_enter Try.func19, Try.ntmps19
    go_wp2_with fail
    refine (hm _).mono ?_; rintro e w1 ⟨rfl, hb1⟩
    go_wp2_with fail
    exact bodyPost_ret (v := .int .i64 (b * k / (a * k - b))) (by simp [results, Try.results19, go_sem]) rfl ⟨rfl, hb1⟩
end Go.Proofs.Ythohpcbfohlmhaa
namespace Go.Proofs.Ythohpcbfohlmhaa
set_option linter.unusedVariables false
set_option linter.unusedSimpArgs false
open Go.RowKit
theorem hi_word {n : Int} (h : Word n) : hi n = 0 := by obtain ⟨_, _⟩ := h; unfold hi; omega
theorem lo_word {n : Int} (h : Word n) : lo n = n := by obtain ⟨_, _⟩ := h; unfold lo; omega
theorem of_h (n : Int) (h : Word n) (w : World) : Calls Try.prog 30 #[.int .u64 n] w fun e w' => e = .returned (.agg #[.int .u64 (hi n), .int .u64 (lo n)]) ∧ Below w.heap.size w w' := by
  rw [hi_word h, lo_word h]; exact of_any n w
theorem clip_1 {n p m : Int} (h : m < p) : clipI n p m = n := if_pos h
set_option maxRecDepth 100000 in
set_option maxHeartbeats 1600000 in
theorem clip_t (n P M : Int) (hn : Word n) (p0 : 0 ≤ P) (p1 : P < MM) (m0 : 0 ≤ M) (m1 : M < MM) (w : World) : Calls Try.prog 26 #[.int .u64 n, .agg #[.int .u64 (hi P), .int .u64 (lo P)], .agg #[.int .u64 (hi M), .int .u64 (lo M)]] w fun e w' => e = .returned (.int .u64 (clipI n P M)) ∧ Below w.heap.size w w' := by
  have hs := fun w => sub_h M P w
  rw [Int.emod_eq_of_lt m0 m1, Int.emod_eq_of_lt p0 p1] at hs
  by_cases c1 : M < P
  · rw [clip_1 c1]
    rw [show subB M P = true from decide_eq_true c1] at hs
    go_enter Try.func26, Try.ntmps26
    go_wp2_with fail
    refine (hs _).mono ?_; rintro e w1 ⟨rfl, hb1⟩
    have hb : Below w.heap.size w w1 := below_step (by repeat (first | exact Below.refl _ _ | assumption | (with_reducible refine Below.setCell ?_ ?h _; case h => first | omega | (simp; done) | (simp; omega)) | (with_reducible refine Below.alloc ?_ ?h _; case h => first | omega | (simp; done) | (simp; omega)) | (with_reducible refine Below.drew ?_) | (with_reducible refine Below.trans ?_ (hb4.mono ?h); case h => first | omega | (simp; done) | (simp; omega)) | (with_reducible refine Below.trans ?_ (hb3.mono ?h); case h => first | omega | (simp; done) | (simp; omega)) | (with_reducible refine Below.trans ?_ (hb2.mono ?h); case h => first | omega | (simp; done) | (simp; omega)) | (with_reducible refine Below.trans ?_ (hb.mono ?h); case h => first | omega | (simp; done) | (simp; omega)) | (with_reducible refine Below.trans ?_ (hb0.mono ?h); case h => first | omega | (simp; done) | (simp; omega)))) hb1
    go_wp2_with fail
    exact bodyPost_ret (v := .int .u64 n) (by simp [results, Try.results26, go_sem]) rfl ⟨rfl, hb.alloc hb.size _⟩
  rw [show subB M P = false from decide_eq_false c1] at hs
  have L0 : 0 ≤ M - P := by omega
  have L1 : M - P < MM := by omega
  have hcl : clipI n P M = if n < M - P then 0 else n - (M - P) := by unfold clipI; rw [if_neg c1]
  generalize clipI n P M = C at *
  generalize M - P = L at *
  have HCL := Lib.hid hcl
  clear hcl
  obtain ⟨n0, n1⟩ := hn
  have e1 : decide (0 < cmpI (L % MM) (n % MM)) = decide (n < L) := by
    rw [Int.emod_eq_of_lt L0 L1, Int.emod_eq_of_lt n0 (by unfold MM; omega), decide_eq_decide]; unfold cmpI
    split <;> (try split) <;> omega
  go_enter Try.func26, Try.ntmps26
  go_wp2_with fail
  refine (hs _).mono ?_; rintro e w1 ⟨rfl, hb1⟩
  have hb : Below w.heap.size w w1 := below_step (by repeat (first | exact Below.refl _ _ | assumption | (with_reducible refine Below.setCell ?_ ?h _; case h => first | omega | (simp; done) | (simp; omega)) | (with_reducible refine Below.alloc ?_ ?h _; case h => first | omega | (simp; done) | (simp; omega)) | (with_reducible refine Below.drew ?_) | (with_reducible refine Below.trans ?_ (hb4.mono ?h); case h => first | omega | (simp; done) | (simp; omega)) | (with_reducible refine Below.trans ?_ (hb3.mono ?h); case h => first | omega | (simp; done) | (simp; omega)) | (with_reducible refine Below.trans ?_ (hb2.mono ?h); case h => first | omega | (simp; done) | (simp; omega)) | (with_reducible refine Below.trans ?_ (hb.mono ?h); case h => first | omega | (simp; done) | (simp; omega)) | (with_reducible refine Below.trans ?_ (hb0.mono ?h); case h => first | omega | (simp; done) | (simp; omega)))) hb1
  clear hb1 hs
  go_wp2_with fail
  have d0 : (w1.alloc (.cells #[.int .u64 (hi L), .int .u64 (lo L)] 31)).cell? ⟨w1.heap.size, 0, none⟩ = some (.int .u64 (hi L)) := by simp [go_sem]
  have d1 : (w1.alloc (.cells #[.int .u64 (hi L), .int .u64 (lo L)] 31)).cell? ⟨w1.heap.size, 1, none⟩ = some (.int .u64 (lo L)) := by simp [go_sem]
  have hb2 : Below w.heap.size w (w1.alloc (.cells #[.int .u64 (hi L), .int .u64 (lo L)] 31)) := hb.alloc hb.size _
  clear hb
  generalize w1.alloc (.cells #[.int .u64 (hi L), .int .u64 (lo L)] 31) = w2 at *
  generalize w1.heap.size = g at *
  go_cut [18] (fun c wx => c = .bool (decide (n < L)) ∧ wx.cell? ⟨g, 0, none⟩ = some (.int .u64 (hi L)) ∧ wx.cell? ⟨g, 1, none⟩ = some (.int .u64 (lo L)) ∧ Below w.heap.size w wx)
  case first =>
    refine region_any (S := (fun w' => w'.cell? ⟨g, 0, none⟩ = some (.int .u64 (hi L)) ∧ w'.cell? ⟨g, 1, none⟩ = some (.int .u64 (lo L)) ∧ Below w.heap.size w w')) (by kernel_rfl) ?hSr1_ (fun wq hHeld => ?_)
    case hSr1_ => (first | exact ⟨d0, d1, hb2.drew⟩ | exact ⟨cell_later hb hHeld.1, cell_later hb hHeld.2.1, below_step hHeld.2.2 hb⟩)
    refine wpAnyH_take (i := 0) (oi := { dst := some 19, op := Go.Op.load 31 (Go.Operand.tmp 7), type := 31, pos := _, after := #[], guard := none }) (v := ?vr1_1_0) rfl (by kernel_rfl) (by kernel_rfl) (by kernel_rfl) (fun _ _ _ h => h) (Or.inl ⟨by rfl, ?yr1_1_0⟩) hHeld ?_
    case yr1_1_0 => ((intro w hSw; (try dsimp only at hSw); go_simp) <;> with_reducible rfl)
    (try simp only [Act.put, List.setIfInBounds_toArray, List.set_cons_zero, List.set_cons_succ])
    refine wpAnyH_take (i := 1) (oi := { dst := some 20, op := Go.Op.move (Go.Operand.tmp 0), type := 22, pos := _, after := #[], guard := none }) (v := ?vr1_2_1) rfl (by kernel_rfl) (by kernel_rfl) (by kernel_rfl) (fun _ _ _ h => h) (Or.inl ⟨by rfl, ?yr1_2_1⟩) hHeld ?_
    case yr1_2_1 => ((intro w hSw; (try dsimp only at hSw); go_simp) <;> with_reducible rfl)
    (try simp only [Act.put, List.setIfInBounds_toArray, List.set_cons_zero, List.set_cons_succ])
    refine wpAnyH_ready (rs := [2]) (by kernel_rfl) (by simp) ?_
    refine AllReadyH.cons (o := { dst := some 21, op := Go.Op.call { callee := Go.Callee.value (Go.Operand.func 30), args := #[Go.Operand.tmp 20], argTypes := #[22] }, type := 31, pos := _, after := #[{ on := 1, ground := Go.Ground.data }], guard := none }) rfl (fun K hK => ?_) AllReadyH.nil
    go_simp
    (refine (of_h n ⟨n0, n1⟩ _).mono ?_; rintro e wn ⟨rfl, hb⟩)
    go_wp2_with fail
    refine hK.out _ _ ?hSr1_3_2 (fun hHeld2 => ?_)
    case hSr1_3_2 => (first | exact ⟨d0, d1, hb2.drew⟩ | exact ⟨cell_later hb hHeld.1, cell_later hb hHeld.2.1, below_step hHeld.2.2 hb⟩)
    clear hK K hHeld
    have hHeld := hHeld2
    clear hHeld2
    rename World => wq
    (try simp only [Act.put, List.setIfInBounds_toArray, List.set_cons_zero, List.set_cons_succ])
    refine wpAnyH_ready (rs := [3]) (by kernel_rfl) (by simp) ?_
    refine AllReadyH.cons (o := { dst := some 22, op := Go.Op.call { callee := Go.Callee.value (Go.Operand.func 29), args := #[Go.Operand.tmp 19, Go.Operand.tmp 21], argTypes := #[31, 31] }, type := 3, pos := _, after := #[{ on := 0, ground := Go.Ground.data }, { on := 2, ground := Go.Ground.data }, { on := 2, ground := Go.Ground.chain }], guard := none }) rfl (fun K hK => ?_) AllReadyH.nil
    go_simp
    (refine (cmp_h L n _).mono ?_; rintro e wn ⟨rfl, hb⟩)
    go_wp2_with fail
    refine hK.out _ _ ?hSr1_4_3 (fun hHeld2 => ?_)
    case hSr1_4_3 => (first | exact ⟨d0, d1, hb2.drew⟩ | exact ⟨cell_later hb hHeld.1, cell_later hb hHeld.2.1, below_step hHeld.2.2 hb⟩)
    clear hK K hHeld
    have hHeld := hHeld2
    clear hHeld2
    rename World => wq
    (try simp only [Act.put, List.setIfInBounds_toArray, List.set_cons_zero, List.set_cons_succ])
    refine wpAnyH_take (i := 4) (oi := { dst := some 23, op := Go.Op.binOp Go.BinOp.gtr 3 (Go.Operand.tmp 22) (Go.Operand.const (Go.Value.int Go.IntKind.i64 0)) 3, type := 4, pos := _, after := #[{ on := 3, ground := Go.Ground.data }], guard := none }) (v := ?vr1_5_4) rfl (by kernel_rfl) (by kernel_rfl) (by kernel_rfl) (fun _ _ _ h => h) (Or.inl ⟨by rfl, ?yr1_5_4⟩) hHeld ?_
    case yr1_5_4 => ((intro w hSw; (try dsimp only at hSw); go_simp) <;> with_reducible rfl)
    (try simp only [Act.put, List.setIfInBounds_toArray, List.set_cons_zero, List.set_cons_succ])
    refine wpAnyH_take (i := 5) (oi := { dst := some 18, op := Go.Op.assign (Go.Operand.tmp 23), type := 4, pos := _, after := #[{ on := 4, ground := Go.Ground.data }, { on := 3, ground := Go.Ground.chain }], guard := none }) (v := ?vr1_6_5) rfl (by kernel_rfl) (by kernel_rfl) (by kernel_rfl) (fun _ _ _ h => h) (Or.inl ⟨by rfl, ?yr1_6_5⟩) hHeld ?_
    case yr1_6_5 => ((intro w hSw; (try dsimp only at hSw); go_simp) <;> with_reducible rfl)
    (try simp only [Act.put, List.setIfInBounds_toArray, List.set_cons_zero, List.set_cons_succ])
    refine wpAnyH_done (by kernel_rfl) ?_ _
    (go_wp2_with fail; go_meet; exact ⟨rfl, hHeld⟩)
  case rest =>
    obtain ⟨rfl, c0, c1, hb⟩ := hcut
    clear d0 d1 hb2 e1
    by_cases c3 : n < L
    · have HE := Lib.hid (show C = 0 by rw [HCL.out, if_pos c3])
      have d3 : decide (n < L) = true := decide_eq_true c3
      go_wp2_with fail
      exact bodyPost_ret (v := .int .u64 0) (by simp [results, Try.results26, go_sem]) rfl ⟨by rw [HE.out], hb⟩
    · have ec : C = n - L := by rw [HCL.out, if_neg c3]
      have d3 : decide (n < L) = false := decide_eq_false c3
      have HE := Lib.hid ec
      clear ec
      have hl : lo L = L := lo_word ⟨L0, by omega⟩
      have hw : IntKind.u64.wrap (n - lo L) = n - L := by rw [hl, IntKind.wrap_u64]; omega
      have hw2 : IntKind.u64.wrap (n - L) = n - L := by rw [IntKind.wrap_u64]; omega
      go_wp2_with fail
      exact bodyPost_ret (v := .int .u64 (n - L)) (by simp [results, Try.results26, go_sem, hw]) rfl ⟨by rw [HE.out], hb⟩
/-- slice v reads as the words l -/
def US (w : World) (v : Value) (ls : List Int) : Prop := ∃ p c, v = .slice p ls.length c ∧ ls.length ≤ c ∧ (0 < ls.length → ∃ g o, p = some ⟨g, o, none⟩ ∧ g < w.heap.size ∧ ∀ j x, ls[j]? = some x → w.cell? ⟨g, o + j, none⟩ = some (.int .u64 x)) ∧ (∀ x ∈ ls, Word x) ∧ (ls.length : Int) ≤ 9223372036854775807
def sumI : List Int → Int
  | [] => 0
  | x :: l => x + sumI l
theorem sumI_app (l : List Int) (x : Int) : sumI (l ++ [x]) = sumI l + x := by induction l with
  | nil => simp [sumI]
  | cons y l ih => simp [sumI, ih]; omega
theorem sumI_take {l : List Int} {j : Nat} {x : Int} (h : l[j]? = some x) : sumI (l.take (j + 1)) = sumI (l.take j) + x := by
  rw [List.take_add_one, h]; exact sumI_app _ _
theorem US.later {w w' : World} {v : Value} {ls : List Int} (h : US w v ls) (hb : Below w.heap.size w w') : US w' v ls := by
  obtain ⟨p, c, rfl, hc, h1, h2⟩ := h
  refine ⟨p, c, rfl, hc, fun h0 => ?_, h2⟩
  obtain ⟨g, o, rfl, hg, hx⟩ := h1 h0
  exact ⟨g, o, rfl, Nat.lt_of_lt_of_le hg hb.size, fun j x hj => (hb.cell (p := ⟨g, o + j, none⟩) hg).trans (hx j x hj)⟩
set_option maxRecDepth 100000 in
set_option maxHeartbeats 3200000 in
theorem sum_t (v : Value) (ls : List Int) (w : World) (hu : US w v ls) : Calls Try.prog 25 #[v] w fun e w' => e = .returned (.agg #[.int .u64 (hi (sumI ls)), .int .u64 (lo (sumI ls))]) ∧ Below w.heap.size w w' := by
  obtain ⟨p, c, rfl, hc, h1, h2, h3⟩ := hu
  generalize hn : ls.length = n at *
  have hC : ∀ j x, ls[j]? = some x → ∃ g o, p = some ⟨g, o, none⟩ ∧ g < w.heap.size ∧ w.cell? ⟨g, o + j, none⟩ = some (.int .u64 x) := fun j x hj => by
    obtain ⟨g, o, e, hg, hx⟩ := h1 (by have := (List.getElem?_eq_some_iff.1 hj).1; omega)
    exact ⟨g, o, e, hg, hx j x hj⟩
  have HC := Lib.hid hC; clear hC h1
  have HW := Lib.hid h2; clear h2
  go_enter Try.func25, Try.ntmps25
  go_wp2_with fail
  refine (of_any 0 _).mono ?_; rintro e w1 ⟨rfl, hb1⟩
  have R2 : Row w1 w.heap.size #[.int .u64 0, .int .u64 0] 31 := (Row.new w _ _).later hb1
  have hbT : Below w.heap.size w w1 := below_step (by repeat (first | exact Below.refl _ _ | assumption | (with_reducible refine Below.setCell ?_ ?h _; case h => first | omega | (simp; done) | (simp; omega)) | (with_reducible refine Below.alloc ?_ ?h _; case h => first | omega | (simp; done) | (simp; omega)) | (with_reducible refine Below.drew ?_) | (with_reducible refine Below.trans ?_ (hb4.mono ?h); case h => first | omega | (simp; done) | (simp; omega)) | (with_reducible refine Below.trans ?_ (hb3.mono ?h); case h => first | omega | (simp; done) | (simp; omega)) | (with_reducible refine Below.trans ?_ (hb2.mono ?h); case h => first | omega | (simp; done) | (simp; omega)) | (with_reducible refine Below.trans ?_ (hb.mono ?h); case h => first | omega | (simp; done) | (simp; omega)) | (with_reducible refine Below.trans ?_ (hb0.mono ?h); case h => first | omega | (simp; done) | (simp; omega)))) hb1
  clear hb1
  go_wp2_with fail
  have lg := R2.lt
  have R3 := Row.new w1 #[.int .u64 0, .int .u64 0] 31
  replace R2 := R2.alloc (.cells #[.int .u64 0, .int .u64 0] 31)
  have ng : w.heap.size ≠ w1.heap.size := by omega
  have hg3 : w.heap.size ≤ w1.heap.size := by omega
  have hb0 : Below w.heap.size w (w1.alloc (.cells #[.int .u64 0, .int .u64 0] 31)) := hbT.alloc hbT.size _
  clear hbT
  generalize w1.alloc (.cells #[.int .u64 0, .int .u64 0] 31) = w2 at *
  generalize w1.heap.size = g3 at *
  go_loopw [9] (fun i wr => ∃ k : Nat, k ≤ n ∧ i = .int .i64 k ∧ Row wr w.heap.size #[.int .u64 0, .int .u64 0] 31 ∧ Row wr g3 #[.int .u64 (hi (sumI (ls.take k))), .int .u64 (lo (sumI (ls.take k)))] 31 ∧ Below w.heap.size w wr) (fun i _ => n - (intOf i).toNat)
  case atStart => exact ⟨0, by omega, rfl, R2, by simpa [sumI, hi, lo] using R3, hb0⟩
  case round =>
    clear R2 R3 hb0
    obtain ⟨k, hk, rfl, R2, R3, hb0⟩ := hrel
    by_cases hlt : k < n
    · have hkb : decide ((k : Int) < n) = true := by simp; omega
      obtain ⟨x, hx⟩ : ∃ x, ls[k]? = some x := ⟨ls[k]'(by omega), List.getElem?_eq_getElem (by omega)⟩
      obtain ⟨gs, o, rfl, hgs, hcell⟩ := HC.out k x hx
      have hw := HW.out x (List.mem_of_getElem? hx)
      replace hcell := cell_later hb0 hcell
      have hbk : (k : Int) < n := by omega
      have hbk0 : (0 : Int) ≤ k := by omega
      have hsum := sumI_take hx
      have ho := of_h x hw
      generalize hSk : sumI (ls.take k) = S at R3 hsum
      have HS := Lib.hid hsum.symm
      clear hsum
      have c0 := (R3.cell 0).trans (show _ = some (Value.int .u64 (hi S)) from rfl)
      have c1 := (R3.cell 1).trans (show _ = some (Value.int .u64 (lo S)) from rfl)
      have f0 := R3.frozen 0
      have f1 := R3.frozen 1
      go_wp2_with fail
      have l3 := R3.lt
      go_region_with (first
        | (go_at_call 30; refine (ho _).mono ?_; rintro e w3 ⟨rfl, hb3⟩; have d0 := (hb3.cell (p := ⟨g3, 0, none⟩) l3).trans c0; have d1 := (hb3.cell (p := ⟨g3, 1, none⟩) l3).trans c1; have Q2 := R2.drew.later hb3; have Q3 := R3.drew.later hb3; have hb5 := below_step hb0.drew hb3)
        | (go_at_call 35; refine (add_h S x _).mono ?_; rintro e w4 ⟨rfl, hb4⟩; have P2 := Q2.later hb4; have P3 := Q3.later hb4; have e0 := (P3.cell 0).trans (show _ = some (Value.int .u64 (hi S)) from rfl); have e1 := (P3.cell 1).trans (show _ = some (Value.int .u64 (lo S)) from rfl); have e2 := P3.frozen 0; have e3 := P3.frozen 1; have hb6 := below_step hb5 hb4; clear d0 d1 c0 c1 f0 f1))
      all_goals go_wp2
      all_goals exact ⟨⟨k + 1, by omega, by go_num, (P2.set_far _ _ ng).set_far _ _ ng, by have Q := (P3.set 0 (.int .u64 (hi (S + x)))).set 1 (.int .u64 (lo (S + x))); rw [← HS.out]; simpa using Q, (hb6.setCell hg3 _).setCell hg3 _⟩, by simp [intOf]; omega⟩
    · obtain rfl : k = n := by omega
      have ha : ls.take k = ls := List.take_of_length_le (by omega)
      rw [ha] at R3
      clear ha
      have c0 := (R3.cell 0).trans (show _ = some (Value.int .u64 (hi (sumI ls))) from rfl)
      have c1 := (R3.cell 1).trans (show _ = some (Value.int .u64 (lo (sumI ls))) from rfl)
      have d0 := (R2.cell 0).trans (show _ = some (Value.int .u64 0) from rfl)
      have d1 := (R2.cell 1).trans (show _ = some (Value.int .u64 0) from rfl)
      have f0 := R2.frozen 0
      have f1 := R2.frozen 1
      have HR := Lib.hid R2
      clear R3 R2
      go_wp2
      have Rf := (HR.out.set 0 (.int .u64 (hi (sumI ls)))).set 1 (.int .u64 (lo (sumI ls)))
      have e0 := (Rf.cell 0).trans (show _ = some (Value.int .u64 (hi (sumI ls))) from rfl)
      have e1 := (Rf.cell 1).trans (show _ = some (Value.int .u64 (lo (sumI ls))) from rfl)
      exact bodyPost_ret (v := .agg #[.int .u64 (hi (sumI ls)), .int .u64 (lo (sumI ls))]) (by simp only [results, Try.results25]; simp [go_sem, e0, e1]) rfl ⟨rfl, (hb0.setCell (by dsimp only; omega) _).setCell (by dsimp only; omega) _⟩
end Go.Proofs.Ythohpcbfohlmhaa
namespace Go.Proofs.Ythohpcbfohlmhaa
set_option linter.unusedVariables false
set_option linter.unusedSimpArgs false
open Go.RowKit
theorem i64_small (x : Int) (h0 : 0 ≤ x) (h1 : x ≤ 9223372036854775807) : IntKind.i64.wrap x = x := by rw [IntKind.wrap_i64]; omega
def z128 : Array Value := Array.replicate 128 (.int .u64 0)
theorem z128_size : z128.size = 128 := by simp [z128]
theorem z128_ne : ¬ z128 = #[] := fun h => by have := congrArg Array.size h; rw [z128_size] at this; cases this
theorem z128_zero (w : World) : (zeroValue 55).run Try.prog w = .ok (.agg z128) w := (zero_of_info (P := Try.prog) (t := 55) (v := .agg z128) (n := 128) (by kernel_rfl)).1 w
theorem wp_alloc_run {P : Program} {w : World} {o : Oper} {a : Act} {K : Act → World → Prop} {Q : Exit → Act → World → Prop} (t : TypeId) (zs : Array Value) (ho : o.op = .alloc t) (hz : ∀ w, (zeroValue t).run P w = .ok (.agg zs) w) (hne : ¬ zs = #[])
    (h : K (a.put o.dst (.pointer (some ⟨w.heap.size, 0, none⟩))) (w.alloc (.cells zs t))) : o.wp P a w K Q := by
  unfold Oper.wp execOp
  simp [ho, hz, Instr.alloc, Value.cells, hne]
  exact h
theorem wpList_alloc128 {w : World} {ops : Array Oper} {rest : List Oper} {d : Option Tmp} {ty : TypeId} {pos : String} {af : Array Edge} {a : Act} {Q : Exit → Act → World → Prop}
    (hK : wpList Try.prog ops Q rest (a.put d (.pointer (some ⟨w.heap.size, 0, none⟩))) (w.alloc (.cells z128 55))) : wpList Try.prog ops Q (⟨d, .alloc 55, ty, pos, af, none⟩ :: rest) a w :=
  wpList_plain rfl fun K hK' => wp_alloc_run 55 z128 rfl z128_zero z128_ne (hK' _ _ hK)
end Go.Proofs.Ythohpcbfohlmhaa
namespace Go.Proofs.Ythohpcbfohlmhaa
set_option linter.unusedVariables false
set_option linter.unusedSimpArgs false
open Go.RowKit
/-- the bits that k rounds have laid -/
def bitsK (ah al : Int) (k : Nat) : Array Value := Array.ofFn fun j : Fin 128 => Value.int .u64 (if 64 - k ≤ j.val ∧ j.val < 64 then ah / 2 ^ (63 - j.val) % 2 else if 128 - k ≤ j.val then al / 2 ^ (127 - j.val) % 2 else 0)
theorem bitsK_size (ah al : Int) (k : Nat) : (bitsK ah al k).size = 128 := by simp [bitsK]
theorem zeroA : z128 = Array.replicate 128 (.int .u64 0) := rfl
theorem zero_bitsK (ah al : Int) : z128 = bitsK ah al 0 := by
  rw [zeroA]
  apply Array.ext
  · rw [bitsK_size]; simp
  · intro i h1 h2
    rw [bitsK_size] at h2
    simp only [bitsK, Array.getElem_ofFn, Array.getElem_replicate]
    rw [if_neg (by omega), if_neg (by omega)]
theorem bitsK_step (ah al : Int) (k : Nat) (hk : k < 64) :
    ((bitsK ah al k).setIfInBounds (63 - k) (.int .u64 (ah / 2 ^ k % 2))).setIfInBounds (127 - k) (.int .u64 (al / 2 ^ k % 2)) = bitsK ah al (k + 1) := by
  apply Array.ext_getElem?
  intro i
  rw [Array.getElem?_setIfInBounds, Array.getElem?_setIfInBounds]
  simp only [Array.size_setIfInBounds, bitsK_size]
  by_cases hi : i < 128
  · have e : ∀ m, (bitsK ah al m)[i]? = some (Value.int .u64 (if 64 - m ≤ i ∧ i < 64 then ah / 2 ^ (63 - i) % 2 else if 128 - m ≤ i then al / 2 ^ (127 - i) % 2 else 0)) := fun m => by
      rw [Array.getElem?_eq_getElem (by rw [bitsK_size]; exact hi)]; simp [bitsK]
    rw [e, e]
    by_cases h1 : 127 - k = i
    · subst h1
      rw [if_pos rfl, if_pos (by omega), if_neg (by omega), if_pos (by omega), show 127 - (127 - k) = k by omega]
    · rw [if_neg h1]
      by_cases h2 : 63 - k = i
      · subst h2
        rw [if_pos rfl, if_pos (by omega), if_pos (by omega), show 63 - (63 - k) = k by omega]
      · rw [if_neg h2]
        congr 2
        repeat' split
        all_goals first | rfl | (exfalso; omega)
  · rw [if_neg (by omega), if_neg (by omega), Array.getElem?_eq_none (by rw [bitsK_size]; omega), Array.getElem?_eq_none (by rw [bitsK_size]; omega)]
theorem cell_at {w : World} {g : Nat} {cs : Array Value} {t : TypeId} (h : Row w g cs t) (j : Nat) (hj : j < cs.size) : w.cell? ⟨g, j, none⟩ = some cs[j] := by
  rw [h.cell j, Array.getElem?_eq_getElem hj]
theorem div2 (x : Int) (k : Nat) : x / 2 ^ k / 2 = x / 2 ^ (k + 1) := by
  rw [Int.pow_succ, Int.ediv_ediv_of_nonneg (Int.pow_nonneg (by decide))]
set_option maxRecDepth 100000 in
set_option maxHeartbeats 1600000 in
theorem bits_t (ah al : Int) (h1 : Word ah) (h2 : Word al) (w : World) :
    Calls Try.prog 33 #[.agg #[.int .u64 ah, .int .u64 al]] w fun e w' => e = .returned (.agg (bitsK ah al 64)) ∧ Below w.heap.size w w' := by
  go_enter Try.func33, Try.ntmps33
  go_wp2_with (first | (with_reducible refine wpList_alloc128 ?_) | fail)
  go_loopw [4] (fun i wr => ∃ k : Nat, k ≤ 64 ∧ i = .int .i64 k ∧ Row wr w.heap.size #[.int .u64 (ah / 2 ^ k), .int .u64 (al / 2 ^ k)] 34 ∧ Row wr (w.heap.size + 1) z128 55 ∧ Row wr (w.heap.size + 1 + 1) (bitsK ah al k) 55 ∧ Below w.heap.size w wr) (fun i _ => 64 - (intOf i).toNat)
  case atStart => exact ⟨0, by omega, rfl, by simpa using ((Row.new w _ _).alloc _).alloc _, by simpa using (Row.new (w.alloc _) _ _).alloc _, by rw [← zero_bitsK]; simpa using (Row.new ((w.alloc _).alloc _) _ _), (by repeat (first | exact Below.refl _ _ | assumption | (with_reducible refine Below.setCell ?_ ?h _; case h => first | omega | (simp; done) | (simp; omega)) | (with_reducible refine Below.alloc ?_ ?h _; case h => first | omega | (simp; done) | (simp; omega)) | (with_reducible refine Below.drew ?_) | (with_reducible refine Below.trans ?_ (hb4.mono ?h); case h => first | omega | (simp; done) | (simp; omega)) | (with_reducible refine Below.trans ?_ (hb3.mono ?h); case h => first | omega | (simp; done) | (simp; omega)) | (with_reducible refine Below.trans ?_ (hb2.mono ?h); case h => first | omega | (simp; done) | (simp; omega)) | (with_reducible refine Below.trans ?_ (hb.mono ?h); case h => first | omega | (simp; done) | (simp; omega)) | (with_reducible refine Below.trans ?_ (hb0.mono ?h); case h => first | omega | (simp; done) | (simp; omega))))⟩
  case round =>
    obtain ⟨k, hk, rfl, R0, R1, R2, hbw⟩ := hrel
    by_cases hlt : k < 64
    · have hkb : decide ((k : Int) < 64) = true := by simp; omega
      have c0 := R0.cell 0
      have c1 := R0.cell 1
      simp at c0 c1
      have f0 := R0.frozen 0
      have f1 := R0.frozen 1
      have i1 : (63 - (k : Int)).toNat = 63 - k := by omega
      have i2 : (127 - (k : Int)).toNat = 127 - k := by omega
      have c2 := cell_at R2 (63 - k) (by rw [bitsK_size]; omega)
      have c3 := cell_at R2 (127 - k) (by rw [bitsK_size]; omega)
      have f2 := R2.frozen (63 - k)
      have f3 := R2.frozen (127 - k)
      generalize (bitsK ah al k)[63 - k]'(by rw [bitsK_size]; omega) = v2 at c2
      generalize (bitsK ah al k)[127 - k]'(by rw [bitsK_size]; omega) = v3 at c3
      have ne1 : ¬ (63 - k = 127 - k) := by omega
      have hwa := word_div h1 k
      have hwb := word_div h2 k
      have ga := div2 ah k
      have gb := div2 al k
      have HS := Lib.hid (bitsK_step ah al k hlt)
      obtain ⟨p1, p2⟩ := hwa
      obtain ⟨p3, p4⟩ := hwb
      go_wp2
      refine ⟨⟨k + 1, by omega, by go_num, ?_, ?_, ?_, (by repeat (first | exact Below.refl _ _ | assumption | (with_reducible refine Below.setCell ?_ ?h _; case h => first | omega | (simp; done) | (simp; omega)) | (with_reducible refine Below.alloc ?_ ?h _; case h => first | omega | (simp; done) | (simp; omega)) | (with_reducible refine Below.drew ?_) | (with_reducible refine Below.trans ?_ (hb4.mono ?h); case h => first | omega | (simp; done) | (simp; omega)) | (with_reducible refine Below.trans ?_ (hb3.mono ?h); case h => first | omega | (simp; done) | (simp; omega)) | (with_reducible refine Below.trans ?_ (hb2.mono ?h); case h => first | omega | (simp; done) | (simp; omega)) | (with_reducible refine Below.trans ?_ (hb.mono ?h); case h => first | omega | (simp; done) | (simp; omega)) | (with_reducible refine Below.trans ?_ (hb0.mono ?h); case h => first | omega | (simp; done) | (simp; omega))))⟩, by simp [intOf]; omega⟩
      · have := (((R0.set_far ⟨w.heap.size + 1 + 1, 63 - k, none⟩ (.int .u64 (ah / 2 ^ k % 2)) (by simp <;> omega)).set_far ⟨w.heap.size + 1 + 1, 127 - k, none⟩ (.int .u64 (al / 2 ^ k % 2)) (by simp <;> omega)).set 0 (.int .u64 (ah / 2 ^ (k + 1)))).set 1 (.int .u64 (al / 2 ^ (k + 1)))
        simpa using this
      · exact (((R1.set_far _ _ (by simp)).set_far _ _ (by simp)).set_far _ _ (by simp)).set_far _ _ (by simp)
      · have := (((R2.set (63 - k) (.int .u64 (ah / 2 ^ k % 2))).set (127 - k) (.int .u64 (al / 2 ^ k % 2))).set_far ⟨w.heap.size, 0, none⟩ (.int .u64 (ah / 2 ^ (k + 1))) (by simp <;> omega)).set_far ⟨w.heap.size, 1, none⟩ (.int .u64 (al / 2 ^ (k + 1))) (by simp <;> omega)
        rwa [HS.out] at this
    · obtain rfl : k = 64 := by omega
      have hth := R1.there (bitsK ah al 64).size (by rw [bitsK_size, zeroA]; simp)
      have hone : (bitsK ah al 64).all (·.oneCell') = true := by
        rw [Array.all_eq_true]; intro i hi; simp [bitsK, Value.oneCell']
      have hi85 : (Try.prog.info? 55).map (·.size) = some (bitsK ah al 64).size := by rw [bitsK_size]; kernel_rfl
      go_wp2_with (first
        | (refine wpList_load_row rfl 55 (.tmp 3) rfl (w.heap.size + 1 + 1) rfl 55 (bitsK ah al 64) (0, 0) _ R2 Try.underlying55 rfl hi85 ?_)
        | (refine wpList_store_mid rfl 55 (.tmp 2) (.tmp 29) rfl (w.heap.size + 1) 0 (bitsK ah al 64) rfl rfl hth hi85 hone ?_))
      have R3 : Row (wr.setCells (w.heap.size + 1) 0 (bitsK ah al 64).toList) (w.heap.size + 1) (bitsK ah al 64) 55 := R1.setAll _ (by rw [bitsK_size, zeroA]; simp)
      refine bodyPost_ret (v := .agg (bitsK ah al 64)) (results_cell_row Try.results33 _ _ (w.heap.size + 1) 55 (bitsK ah al 64) (0, 0) _ rfl R3 Try.underlying55 rfl hi85) rfl ⟨rfl, ?_⟩
      exact below_setCells (by omega) _ _ _ hbw
/-- the 128 bits of a number, the greatest first -/
def bitsA (n : Int) : Array Value := Array.ofFn fun j : Fin 128 => Value.int .u64 (n / 2 ^ (127 - j.val) % 2)
theorem bitsA_size (n : Int) : (bitsA n).size = 128 := by simp [bitsA]
theorem bitsK_all (ah al : Int) (h1 : Word ah) (h2 : Word al) : bitsK ah al 64 = bitsA (wv ah al) := by
  unfold bitsK bitsA
  congr 1
  funext j
  congr 1
  have hj := j.isLt
  have key : ∀ m, m < 64 → (ah * 18446744073709551616 + al) / 2 ^ (64 + m) % 2 = ah / 2 ^ m % 2 := fun m _ => by
    rw [Int.pow_add, ← Int.ediv_ediv_of_nonneg (by decide), show (ah * 18446744073709551616 + al) / 2 ^ 64 = ah by obtain ⟨_, _⟩ := h2; omega]
  unfold wv
  by_cases h : j.val < 64
  · rw [if_pos ⟨by omega, h⟩, show 127 - j.val = 64 + (63 - j.val) by omega, key _ (by omega)]
  · rw [if_neg (by omega), if_pos (by omega)]
    have hm : 127 - j.val < 64 := by omega
    generalize 127 - j.val = m at *
    have e : (18446744073709551616 : Int) = 2 ^ m * (2 * 2 ^ (63 - m)) := by
      rw [← Int.mul_assoc, Int.mul_comm (2 ^ m) 2, Int.mul_assoc, ← Int.pow_add, show m + (63 - m) = 63 by omega]; rfl
    rw [e, Int.mul_left_comm, Int.add_comm, Int.add_mul_ediv_left _ _ (Int.ne_of_gt (Int.pow_pos (by decide))), Int.mul_left_comm, Int.add_mul_emod_self_left]
theorem bits_h (n : Int) (w : World) :
    Calls Try.prog 33 #[.agg #[.int .u64 (hi n), .int .u64 (lo n)]] w fun e w' => e = .returned (.agg (bitsA (n % MM))) ∧ Below w.heap.size w w' := by
  have h := bits_t (hi n) (lo n) (word_hi n) (word_lo n) w
  rw [bitsK_all _ _ (word_hi n) (word_lo n), wv_hi_lo] at h
  exact h
end Go.Proofs.Ythohpcbfohlmhaa
