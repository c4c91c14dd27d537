/- F0, RowC, Num, Num2, WideN, WideS, Six1, Six2, Six3, Four1, Shelf: what the theorem needs of these texts. No conditions beyond those that are written. -/
import Derived.WalkKit
import Derived.WalkSpells
import Derived.WalkLawsBesides
import Derived.Lib.Hide
import Derived.Deep.RegionWith
import Derived.Deep.RegionHeld3
import Derived.Laws.Rows
import Derived.Deep.MidRow
import Derived.Shelf.Strings.Builder1
import Derived.Shelf.Strings.Builder2
import Derived.Shelf.Strings.OnBuilder
import Derived.Shelf.Strings.Trim
import Derived.Shelf.Small.Utf8
import Derived.Shelf.Small.Bits
import Derived.Shelf.Small.Strs
import Derived.Shelf.Strings.BuilderF
import Derived.Shelf.Strings.BuilderK
import Derived.Shelf.Utf8.RuneCount
import Derived.Shelf.Strings.Builder2Cap
import Derived.Shelf.Strconv.Itoa0
import Derived.Shelf.Strconv.Itoa1
import Derived.Shelf.LaysM
import Derived.Shelf.Strconv.Itoa2
import Derived.Shelf.Strconv.Itoa3
import Derived.Shelf.Strconv.Clone
import Derived.Shelf.Strconv.SyntaxError
import Derived.Shelf.LaysC
import Derived.Shelf.Strconv.ToError
import Derived.Shelf.Strconv.Lower
import Derived.Shelf.Strconv.ParseUint10
import Derived.Shelf.Strconv.ParseUint10Empty
import Derived.Shelf.Strconv.ParseUint10Any
import Derived.Shelf.Strconv.RangeError
import Derived.Shelf.Strconv.ToErrorRange
import Derived.Shelf.Strconv.ParseUintEmpty
import Derived.Shelf.Strconv.ParseUint10b64
import Derived.Shelf.Strconv.ParseUint10b32
import Derived.Shelf.Strconv.ParseUint10b16
import Derived.Shelf.Strconv.ParseUint10b8
import Derived.Shelf.Strconv.ParseUint10At
import Derived.Ground.MpProg
import Derived.Shelf.Pu.ParseUintPublic10
import Derived.Shelf.Pu.ErrVarParseUint
import Derived.Shelf.Strings.Search1
import Derived.Shelf.Strings.Search2
import Derived.Shelf.Strings.Search3
import Derived.Shelf.Strings.Cut
import Derived.Shelf.Strings.Count
import Derived.Shelf.Strings.Shaped
import Derived.Shelf.Strings.Split
import Derived.Shelf.Strings.SplitShaped
import Derived.Shelf.Unicode.Decode
import Derived.Shelf.Strings.Runes
import Derived.Shelf.Strings.RuneCount
import Derived.Shelf.Strings.AsciiSet
import Derived.Shelf.Strings.Explode
import Derived.Shelf.Unicode.DecodeSlow
import Derived.Shelf.Unicode.DecodeAny
import Derived.Shelf.Strings.BuilderCap
import Derived.Test.YtboinifeemghaaaGreatDoorProg
import Derived.WalkSmall
import Derived.Lib.SmallJoins
import Derived.Lib.AppendIntMem
import Derived.Laws.IdiomStrings
import Derived.Laws.CopyOwn
import Derived.Deep.RegionLaw
import Derived.OwnWalk
import Derived.Deep.AppendLies
import Derived.Deep.DeepCutAuto
import Derived.BigQuiet
import Derived.RangeFuncNested
import Derived.RangeFuncBound
import Derived.RangeFuncCalls
import Derived.RangeFuncLeaves
import Derived.Shelf.Abstract
import Derived.Shelf.RegionOpen
import Derived.OwnWalkIn
import Derived.TacticsInMore
import Derived.LoopNIn
import Derived.LoopIn
import Derived.Lib.Join
import Derived.Deep.Fields
import Derived.ProofKit
import Derived.SizedLaws
import Derived.IntWalk
import Derived.DeepKeys
import Derived.LoopN
import Derived.Deep.WholeRow
import Derived.Lib.AtoiErrMem
import Derived.BigRegion
import Derived.Stop.LaidErr
import Derived.Lib.LaidTab
import Derived.LaidLaws
import Derived.LaidHandle
import Derived.RowKitTokens
import Derived.ChangeSame
import Derived.Test.YtboinifeemghaaaGreatDoorCards
import Derived.Test.YtboinifeemghaaaGreatDoorTie
import Derived.OpenShut
import Derived.ShutString
import Derived.ChangeOld
import Derived.Below
import Derived.Deep.DeepHandedRow
set_option linter.unusedSimpArgs false
set_option linter.unusedVariables false
set_option maxHeartbeats 3200000
set_option maxRecDepth 100000
namespace Go.Proofs.YtboinifeemghaaaGreatDoor
open Go.RowKit
theorem ret_int {k : IntKind} {a b : Int} (h : a = b) : Ending.returned (.int k a) = .returned (.int k b) := by rw [h]
theorem below_step {w W w' : World} (h : Below w.heap.size w W) (hb : Below W.heap.size W w') : Below w.heap.size w w' := h.trans (hb.mono h.size)
def Row (w : World) (g : Nat) (cs : Array Value) (t : TypeId) : Prop := w.heap[g]? = some (.cells cs t (0, 0))
theorem Row.cell {w : World} {g : Nat} {cs : Array Value} {t : TypeId} (h : Row w g cs t) (j : Nat) : w.cell? ⟨g, j, none⟩ = cs[j]? := cell_of_row w g j cs t _ h
theorem Row.frozen {w : World} {g : Nat} {cs : Array Value} {t : TypeId} (h : Row w g cs t) (j : Nat) : w.frozen? ⟨g, j, none⟩ = false := frozen_of_row w g j cs t h
theorem Row.lt {w : World} {g : Nat} {cs : Array Value} {t : TypeId} (h : Row w g cs t) : g < w.heap.size := by
 by_cases hl : g < w.heap.size
 ·exact hl
 ·unfold Row at h; rw [Array.getElem?_eq_none (by omega)] at h; cases h
theorem Row.new (w : World) (cs : Array Value) (t : TypeId) : Row (w.alloc (.cells cs t)) w.heap.size cs t := heap_alloc_new w _
theorem Row.alloc {w : World} {g : Nat} {cs : Array Value} {t : TypeId} (h : Row w g cs t) (o : Obj) : Row (w.alloc o) g cs t := (Below.heap_alloc w o g h.lt).trans h
theorem Row.drew {w : World} {g : Nat} {cs : Array Value} {t : TypeId} (h : Row w g cs t) : Row w.drew g cs t := h
theorem Row.set {w : World} {g : Nat} {cs : Array Value} {t : TypeId} (h : Row w g cs t) (i : Nat) (v : Value) : Row (w.setCell ⟨g, i, none⟩ v) g (cs.setIfInBounds i v) t := heap_setCell_same w g i cs t v h
theorem Row.set_far {w : World} {g : Nat} {cs : Array Value} {t : TypeId} (h : Row w g cs t) (a : Addr) (v : Value) (hne : g ≠ a.block) : Row (w.setCell a v) g cs t := (heap_setCell_other w a g v hne).trans h
theorem Row.later {w w' : World} {g : Nat} {cs : Array Value} {t : TypeId} (h : Row w g cs t) (hb : Below w.heap.size w w') : Row w' g cs t := (hb.block g h.lt).trans h
theorem Row.below {B : Nat} {w w' : World} {g : Nat} {cs : Array Value} {t : TypeId} (h : Row w g cs t) (hb : Below B w w') (hg : g < B) : Row w' g cs t := (hb.block g hg).trans h
theorem Row.there {w : World} {g : Nat} {cs : Array Value} {t : TypeId} (h : Row w g cs t) (n : Nat) (hn : n ≤ cs.size) : w.there g 0 n := fun j hj => by
 rw [Nat.zero_add, h.cell j, h.frozen j, Array.getElem?_eq_getElem (by omega)]
 exact ⟨rfl, rfl⟩
def setL (cs : Array Value) : Nat → List Value → Array Value
 | _, [] => cs
 | o, v :: r => setL (cs.setIfInBounds o v) (o + 1) r
theorem Row.setCells {g : Nat} {t : TypeId} : ∀ (vs : List Value) (o : Nat) {w : World} {cs : Array Value}, Row w g cs t → Row (w.setCells g o vs) g (setL cs o vs) t
 | [], _, _, _, h => h
 | v :: r, o, _, _, h => Row.setCells r (o + 1) (h.set o v)
theorem setL_get : ∀ (vs : List Value) (o : Nat) (cs : Array Value) (i : Nat), o + vs.length ≤ cs.size → (setL cs o vs)[i]? = if o ≤ i ∧ i < o + vs.length then vs[i - o]? else cs[i]?
 | [], o, cs, i, _ => by rw [setL, if_neg (by simp <;> omega)]
 | v :: r, o, cs, i, h => by
  simp only [List.length_cons] at h
  rw [setL, setL_get r (o + 1) _ i (by simp; omega)]
  by_cases h1 : o + 1 ≤ i ∧ i < o + 1 + r.length
  ·rw [if_pos h1, if_pos (by simp only [List.length_cons]; omega), show i - o = (i - (o + 1)) + 1 by omega, List.getElem?_cons_succ]
  ·rw [if_neg h1]
   by_cases h2 : i = o
   ·subst h2
    rw [if_pos (by simp only [List.length_cons]; omega), Array.getElem?_setIfInBounds_self_of_lt (by omega), Nat.sub_self]; rfl
   ·rw [if_neg (by simp only [List.length_cons]; omega), Array.getElem?_setIfInBounds_ne (by omega)]
theorem setL_all (cs ds : Array Value) (h : ds.size = cs.size) : setL cs 0 ds.toList = ds := by
 apply Array.ext_getElem?
 intro i
 rw [setL_get ds.toList 0 cs i (by simp [h])]
 by_cases hi : i < ds.size
 ·rw [if_pos (by simp [hi])]; simp
 ·rw [if_neg (by simp; omega), Array.getElem?_eq_none (by omega), Array.getElem?_eq_none (by omega)]
theorem Row.setAll {w : World} {g : Nat} {cs : Array Value} {t : TypeId} (h : Row w g cs t) (ds : Array Value) (hd : ds.size = cs.size) : Row (w.setCells g 0 ds.toList) g ds t := by
 have := Row.setCells ds.toList 0 h
 rwa [setL_all cs ds hd] at this
theorem setCells_other {g k : Nat} (hne : k ≠ g) : ∀ (vs : List Value) (o : Nat) (w : World), (w.setCells g o vs).heap[k]? = w.heap[k]?
 | [], _, _ => rfl
 | v :: r, o, w => by rw [World.setCells, setCells_other hne r (o + 1), heap_setCell_other _ _ _ _ hne]
theorem below_setCells {B g : Nat} {a : World} (hg : B ≤ g) : ∀ (vs : List Value) (o : Nat) (w : World), Below B a w → Below B a (w.setCells g o vs)
 | [], _, _, h => h
 | v :: r, o, w, h => below_setCells hg r (o + 1) _ (h.setCell hg v)
end Go.Proofs.YtboinifeemghaaaGreatDoor
universe u
namespace Go.Proofs.YtboinifeemghaaaGreatDoor
open Go.RowKit
theorem nz1 {α : Type u} (l : List α) (i : Nat) (x : α) : l.toArray.setIfInBounds i x = (l.set i x).toArray := List.setIfInBounds_toArray ..
theorem nz2 {α : Type u} (a : α) (l : List α) (x : α) : (a :: l).set 0 x = x :: l := rfl
theorem nz3 {α : Type u} (a : α) (l : List α) (n : Nat) (x : α) : (a :: l).set (n + 1) x = a :: l.set n x := rfl
section
variable {P : Program} {ops : Array Oper} {Q : Exit → Act → World → Prop} {md : Region.Mode} {S : World → Prop} {fuel : Nat} {listed : Array Bool} {a : Act} {w : World}
theorem tk (i : Nat) (oi : Oper) {v : Value} {l2 : Array Bool} {a2 : Act} (hS : S w) (h : wpAnyH P md ops Q S fuel l2 a2 w)
  (hy : ∀ w, S w → (execOp a.eval oi).run P w = .ok (.value v) w := by (intro w hSw; (try dsimp only at hSw); go_simp) <;> with_reducible rfl)
  (hi : ops[i]? = some oi := by rfl) (hs : Region.noSelect ops = true := by kernel_rfl) (hf : Region.free md ops listed i = true := by kernel_rfl) (hr : (Region.ready md ops listed).contains i = true := by kernel_rfl)
  (hQ : ∀ c a w, Q (.panic c) (a.put oi.dst v) w → Q (.panic c) a w := by exact fun _ _ _ h => h) (hg : Region.wanted oi (yielded ops a.tmps) = true := by rfl)
  (hl : listed.setIfInBounds i true = l2 := by (try simp only [nz1, nz2, nz3]); rfl) (ha : a.put oi.dst v = a2 := by (try simp only [Act.put, nz1, nz2, nz3]); rfl) : wpAnyH P md ops Q S (fuel + 1) listed a w := by
 subst hl; subst ha; exact wpAnyH_take hi hs hf hr hQ (.inl ⟨hg, hy⟩) hS h
theorem ts (i : Nat) (oi : Oper) {l2 : Array Bool} {a2 : Act} (hS : S w) (h : wpAnyH P md ops Q S fuel l2 a2 w)
  (hi : ops[i]? = some oi := by rfl) (hs : Region.noSelect ops = true := by kernel_rfl) (hf : Region.free md ops listed i = true := by kernel_rfl) (hr : (Region.ready md ops listed).contains i = true := by kernel_rfl)
  (hQ : ∀ c a w, Q (.panic c) (a.put oi.dst undef) w → Q (.panic c) a w := by exact fun _ _ _ h => h) (hg : Region.wanted oi (yielded ops a.tmps) = false := by rfl)
  (hl : listed.setIfInBounds i true = l2 := by (try simp only [nz1, nz2, nz3]); rfl) (ha : a.put oi.dst undef = a2 := by (try simp only [Act.put, nz1, nz2, nz3]); rfl) : wpAnyH P md ops Q S (fuel + 1) listed a w := by
 subst hl; subst ha; exact wpAnyH_take hi hs hf hr hQ (.inr ⟨hg, rfl⟩) hS h
end
theorem kc {w w' : World} {a : Addr} {v : Value} {p q : Prop} (hb : Below w.heap.size w w') (g : p → q) (h : w.cell? a = some v ∧ p) : w'.cell? a = some v ∧ q := ⟨cell_later hb h.1, g h.2⟩
theorem kr {w w' : World} {b : Nat} {cs : Array Value} {t : TypeId} {p q : Prop} (hb : Below w.heap.size w w') (g : p → q) (h : Row w b cs t ∧ p) : Row w' b cs t ∧ q := ⟨h.1.later hb, g h.2⟩
theorem cl {w w' : World} {a : Addr} {v : Value} (hb : Below w.heap.size w w') (h : w.cell? a = some v) : w'.cell? a = some v := cell_later hb h
theorem fz5 {w : World} {g : Nat} {cs : Array Value} {t : TypeId} (R : Row w g cs t) : w.frozen? ⟨g, 0, none⟩ = false ∧ w.frozen? ⟨g, 1, none⟩ = false ∧ w.frozen? ⟨g, 2, none⟩ = false ∧ w.frozen? ⟨g, 3, none⟩ = false ∧ w.frozen? ⟨g, 4, none⟩ = false := ⟨R.frozen 0, R.frozen 1, R.frozen 2, R.frozen 3, R.frozen 4⟩
theorem fz12 {w : World} {g : Nat} {cs : Array Value} {t : TypeId} (R : Row w g cs t) : w.frozen? ⟨g, 0, none⟩ = false ∧ w.frozen? ⟨g, 1, none⟩ = false ∧ w.frozen? ⟨g, 2, none⟩ = false ∧ w.frozen? ⟨g, 3, none⟩ = false ∧ w.frozen? ⟨g, 4, none⟩ = false ∧ w.frozen? ⟨g, 5, none⟩ = false ∧ w.frozen? ⟨g, 6, none⟩ = false ∧ w.frozen? ⟨g, 7, none⟩ = false ∧ w.frozen? ⟨g, 8, none⟩ = false ∧ w.frozen? ⟨g, 9, none⟩ = false ∧ w.frozen? ⟨g, 10, none⟩ = false ∧ w.frozen? ⟨g, 11, none⟩ = false := ⟨R.frozen 0, R.frozen 1, R.frozen 2, R.frozen 3, R.frozen 4, R.frozen 5, R.frozen 6, R.frozen 7, R.frozen 8, R.frozen 9, R.frozen 10, R.frozen 11⟩
theorem row2 {w : World} {g : Nat} {t : TypeId} {a0 a1 : Value} (R : Row w g #[a0, a1] t) : w.cell? ⟨g, 0, none⟩ = some a0 ∧ w.cell? ⟨g, 1, none⟩ = some a1 := ⟨R.cell 0, R.cell 1⟩
theorem row3 {w : World} {g : Nat} {t : TypeId} {a0 a1 a2 : Value} (R : Row w g #[a0, a1, a2] t) : w.cell? ⟨g, 0, none⟩ = some a0 ∧ w.cell? ⟨g, 1, none⟩ = some a1 ∧ w.cell? ⟨g, 2, none⟩ = some a2 := ⟨R.cell 0, R.cell 1, R.cell 2⟩
theorem row5 {w : World} {g : Nat} {t : TypeId} {a0 a1 a2 a3 a4 : Value} (R : Row w g #[a0, a1, a2, a3, a4] t) : w.cell? ⟨g, 0, none⟩ = some a0 ∧ w.cell? ⟨g, 1, none⟩ = some a1 ∧ w.cell? ⟨g, 2, none⟩ = some a2 ∧ w.cell? ⟨g, 3, none⟩ = some a3 ∧ w.cell? ⟨g, 4, none⟩ = some a4 := ⟨R.cell 0, R.cell 1, R.cell 2, R.cell 3, R.cell 4⟩
theorem row7 {w : World} {g : Nat} {t : TypeId} {a0 a1 a2 a3 a4 a5 a6 : Value} (R : Row w g #[a0, a1, a2, a3, a4, a5, a6] t) : w.cell? ⟨g, 0, none⟩ = some a0 ∧ w.cell? ⟨g, 1, none⟩ = some a1 ∧ w.cell? ⟨g, 2, none⟩ = some a2 ∧ w.cell? ⟨g, 3, none⟩ = some a3 ∧ w.cell? ⟨g, 4, none⟩ = some a4 ∧ w.cell? ⟨g, 5, none⟩ = some a5 ∧ w.cell? ⟨g, 6, none⟩ = some a6 := ⟨R.cell 0, R.cell 1, R.cell 2, R.cell 3, R.cell 4, R.cell 5, R.cell 6⟩
theorem row12 {w : World} {g : Nat} {t : TypeId} {a0 a1 a2 a3 a4 a5 a6 a7 a8 a9 a10 a11 : Value} (R : Row w g #[a0, a1, a2, a3, a4, a5, a6, a7, a8, a9, a10, a11] t) : w.cell? ⟨g, 0, none⟩ = some a0 ∧ w.cell? ⟨g, 1, none⟩ = some a1 ∧ w.cell? ⟨g, 2, none⟩ = some a2 ∧ w.cell? ⟨g, 3, none⟩ = some a3 ∧ w.cell? ⟨g, 4, none⟩ = some a4 ∧ w.cell? ⟨g, 5, none⟩ = some a5 ∧ w.cell? ⟨g, 6, none⟩ = some a6 ∧ w.cell? ⟨g, 7, none⟩ = some a7 ∧ w.cell? ⟨g, 8, none⟩ = some a8 ∧ w.cell? ⟨g, 9, none⟩ = some a9 ∧ w.cell? ⟨g, 10, none⟩ = some a10 ∧ w.cell? ⟨g, 11, none⟩ = some a11 := ⟨R.cell 0, R.cell 1, R.cell 2, R.cell 3, R.cell 4, R.cell 5, R.cell 6, R.cell 7, R.cell 8, R.cell 9, R.cell 10, R.cell 11⟩
end Go.Proofs.YtboinifeemghaaaGreatDoor
namespace Go.Proofs.YtboinifeemghaaaGreatDoor
def M : Int := 18446744073709551616
def MM : Int := 340282366920938463463374607431768211456
def hi (n : Int) : Int := n / 18446744073709551616 % 18446744073709551616
def lo (n : Int) : Int := n % 18446744073709551616
def wv (h l : Int) : Int := h * 18446744073709551616 + l
def Word (x : Int) : Prop := 0 ≤ x ∧ x < 18446744073709551616
theorem word_hi (n : Int) : Word (hi n) := by unfold Word hi; omega
theorem word_lo (n : Int) : Word (lo n) := by unfold Word lo; omega
theorem hi_nonneg (n : Int) : 0 ≤ hi n := by unfold hi; omega
theorem lo_nonneg (n : Int) : 0 ≤ lo n := by unfold lo; omega
theorem hi_le (n : Int) : hi n ≤ 18446744073709551615 := by unfold hi; omega
theorem lo_le (n : Int) : lo n ≤ 18446744073709551615 := by unfold lo; omega
theorem hi_wv {h l : Int} (hh : Word h) (hl : Word l) : hi (wv h l) = h := by unfold Word at *; unfold hi wv; omega
theorem lo_wv {h l : Int} (hl : Word l) : lo (wv h l) = l := by unfold Word at *; unfold lo wv; omega
theorem wv_hi_lo (n : Int) : wv (hi n) (lo n) = n % MM := by unfold wv hi lo MM; omega
theorem hi_mod (n : Int) : hi (n % MM) = hi n := by unfold hi MM; omega
theorem lo_mod (n : Int) : lo (n % MM) = lo n := by unfold lo MM; omega
theorem hi_congr {a b : Int} (h : a % MM = b % MM) : hi a = hi b := by rw [← hi_mod a, h, hi_mod]
theorem lo_congr {a b : Int} (h : a % MM = b % MM) : lo a = lo b := by rw [← lo_mod a, h, lo_mod]
def cmpI (a b : Int) : Int := if a < b then -1 else if a = b then 0 else 1
theorem cmpI_neg (a b : Int) : decide (cmpI a b < 0) = decide (a < b) := by unfold cmpI; split <;> (try split) <;> simp_all
def andI (a b : Int) : Int := ((a.toNat &&& b.toNat : Nat) : Int)
def orI (a b : Int) : Int := ((a.toNat ||| b.toNat : Nat) : Int)
theorem ofInt_toNat (x : Int) (h : Word x) : (BitVec.ofInt 64 x).toNat = x.toNat := by
 obtain ⟨h0, h1⟩ := h
 obtain ⟨n, rfl⟩ := Int.eq_ofNat_of_zero_le h0
 rw [BitVec.ofInt_natCast, BitVec.toNat_ofNat, Int.toNat_natCast]; exact Nat.mod_eq_of_lt (by omega)
theorem word_toNat {x : Int} (h : Word x) : x.toNat < 2 ^ 64 := by obtain ⟨_, _⟩ := h; omega
theorem andI_word {x y : Int} (hx : Word x) : Word (andI x y) := by
 have : x.toNat &&& y.toNat < 2 ^ 64 := Nat.lt_of_le_of_lt Nat.and_le_left (word_toNat hx)
 unfold andI Word; omega
theorem orI_word {x y : Int} (hx : Word x) (hy : Word y) : Word (orI x y) := by
 have : x.toNat ||| y.toNat < 2 ^ 64 := Nat.or_lt_two_pow (word_toNat hx) (word_toNat hy)
 unfold orI Word; omega
theorem bits_and_w {x y : Int} (hx : Word x) (hy : Word y) : bits .and .u64 x y = andI x y := by
 have hw := andI_word (y := y) hx
 show IntKind.u64.wrap ((BitVec.ofInt 64 x &&& BitVec.ofInt 64 y).toNat : Int) = _
 rw [BitVec.toNat_and, ofInt_toNat x hx, ofInt_toNat y hy, IntKind.wrap_u64]
 unfold andI Word at *; omega
theorem bits_or_w {x y : Int} (hx : Word x) (hy : Word y) : bits .or .u64 x y = orI x y := by
 have hw := orI_word hx hy
 show IntKind.u64.wrap ((BitVec.ofInt 64 x ||| BitVec.ofInt 64 y).toNat : Int) = _
 rw [BitVec.toNat_or, ofInt_toNat x hx, ofInt_toNat y hy, IntKind.wrap_u64]
 unfold orI Word at *; omega
theorem wv_toNat {h l : Int} (hh : Word h) (hl : Word l) : (wv h l).toNat = h.toNat * 2 ^ 64 + l.toNat := by
 obtain ⟨_, _⟩ := hh; obtain ⟨_, _⟩ := hl; unfold wv; omega
theorem wv_nonneg {h l : Int} (hh : Word h) (hl : Word l) : 0 ≤ wv h l := by
 obtain ⟨_, _⟩ := hh; obtain ⟨_, _⟩ := hl; unfold wv; omega
theorem wv_lt {h l : Int} (hh : Word h) (hl : Word l) : wv h l < MM := by
 obtain ⟨_, _⟩ := hh; obtain ⟨_, _⟩ := hl; unfold wv MM; omega
theorem hi_nat (n : Nat) : hi (n : Int) = ((n / 2 ^ 64 % 2 ^ 64 : Nat) : Int) := by unfold hi; omega
theorem lo_nat (n : Nat) : lo (n : Int) = ((n % 2 ^ 64 : Nat) : Int) := by unfold lo; omega
theorem and_pure {ah al bh bl : Int} (h1 : Word ah) (h2 : Word al) (h3 : Word bh) (h4 : Word bl) :
  hi (andI (wv ah al) (wv bh bl)) = bits .and .u64 ah bh ∧ lo (andI (wv ah al) (wv bh bl)) = bits .and .u64 al bl := by
 rw [bits_and_w h1 h3, bits_and_w h2 h4]
 unfold andI
 rw [wv_toNat h1 h2, wv_toNat h3 h4, hi_nat, lo_nat, Nat.and_div_two_pow, Nat.and_mod_two_pow, Nat.and_mod_two_pow]
 have := word_toNat h1; have := word_toNat h2; have := word_toNat h3; have := word_toNat h4
 rw [show (ah.toNat * 2 ^ 64 + al.toNat) / 2 ^ 64 % 2 ^ 64 = ah.toNat by omega, show (bh.toNat * 2 ^ 64 + bl.toNat) / 2 ^ 64 % 2 ^ 64 = bh.toNat by omega,
  show (ah.toNat * 2 ^ 64 + al.toNat) % 2 ^ 64 = al.toNat by omega, show (bh.toNat * 2 ^ 64 + bl.toNat) % 2 ^ 64 = bl.toNat by omega]
 exact ⟨rfl, rfl⟩
theorem or_pure {ah al bh bl : Int} (h1 : Word ah) (h2 : Word al) (h3 : Word bh) (h4 : Word bl) :
  hi (orI (wv ah al) (wv bh bl)) = bits .or .u64 ah bh ∧ lo (orI (wv ah al) (wv bh bl)) = bits .or .u64 al bl := by
 rw [bits_or_w h1 h3, bits_or_w h2 h4]
 unfold orI
 rw [wv_toNat h1 h2, wv_toNat h3 h4, hi_nat, lo_nat, Nat.or_div_two_pow, Nat.or_mod_two_pow, Nat.or_mod_two_pow]
 have := word_toNat h1; have := word_toNat h2; have := word_toNat h3; have := word_toNat h4
 rw [show (ah.toNat * 2 ^ 64 + al.toNat) / 2 ^ 64 % 2 ^ 64 = ah.toNat by omega, show (bh.toNat * 2 ^ 64 + bl.toNat) / 2 ^ 64 % 2 ^ 64 = bh.toNat by omega,
  show (ah.toNat * 2 ^ 64 + al.toNat) % 2 ^ 64 = al.toNat by omega, show (bh.toNat * 2 ^ 64 + bl.toNat) % 2 ^ 64 = bl.toNat by omega]
 exact ⟨rfl, rfl⟩
theorem pow_split (n : Nat) (h : n ≤ 64) : 2 ^ n * 2 ^ (64 - n) = 2 ^ 64 := by rw [← Nat.pow_add]; congr 1; omega
theorem shl_nat (a b n : Nat) (hn : n ≤ 64) (ha : a < 2 ^ 64) (hb : b < 2 ^ 64) :
  (a * 2 ^ 64 + b) * 2 ^ n / 2 ^ 64 % 2 ^ 64 = (a * 2 ^ n % 2 ^ 64) ||| (b / 2 ^ (64 - n)) ∧ (a * 2 ^ 64 + b) * 2 ^ n % 2 ^ 64 = b * 2 ^ n % 2 ^ 64 := by
 have hp := pow_split n hn
 have hpos : 0 < 2 ^ (64 - n) := Nat.two_pow_pos _
 have hpos' : 0 < 2 ^ n := Nat.two_pow_pos _
 have e1 : (a * 2 ^ 64 + b) * 2 ^ n = b * 2 ^ n + 2 ^ 64 * (a * 2 ^ n) := by rw [Nat.add_mul, Nat.add_comm]; congr 1; rw [Nat.mul_assoc, Nat.mul_left_comm]
 have e2 : b * 2 ^ n / 2 ^ 64 = b / 2 ^ (64 - n) := by
  rw [← hp, Nat.mul_comm b, Nat.mul_div_mul_left _ _ hpos']
 have e3 : a * 2 ^ n % 2 ^ 64 = 2 ^ n * (a % 2 ^ (64 - n)) := by
  rw [← hp, Nat.mul_comm a, Nat.mul_mod_mul_left]
 have e4 : b / 2 ^ (64 - n) < 2 ^ n := by rw [Nat.div_lt_iff_lt_mul hpos, hp]; exact hb
 constructor
 ·rw [e1, Nat.add_mul_div_left _ _ (Nat.two_pow_pos _), e2, Nat.add_comm, Nat.add_mod, e3, ← Nat.two_pow_add_eq_or_of_lt e4, Nat.mod_eq_of_lt (a := b / 2 ^ (64 - n)) (Nat.lt_of_lt_of_le e4 (Nat.pow_le_pow_right (by omega) hn))]
  refine Nat.mod_eq_of_lt ?_
  have : a % 2 ^ (64 - n) + 1 ≤ 2 ^ (64 - n) := Nat.mod_lt _ hpos
  calc 2 ^ n * (a % 2 ^ (64 - n)) + b / 2 ^ (64 - n) < 2 ^ n * (a % 2 ^ (64 - n)) + 2 ^ n := by omega
   _ = 2 ^ n * (a % 2 ^ (64 - n) + 1) := by rw [Nat.mul_add, Nat.mul_one]
   _ ≤ 2 ^ n * 2 ^ (64 - n) := Nat.mul_le_mul_left _ this
   _ = 2 ^ 64 := hp
 ·rw [e1, Nat.add_mul_mod_self_left]
theorem shr_nat (a b n : Nat) (hn : n ≤ 64) (ha : a < 2 ^ 64) (hb : b < 2 ^ 64) :
  (a * 2 ^ 64 + b) / 2 ^ n / 2 ^ 64 % 2 ^ 64 = a / 2 ^ n ∧ (a * 2 ^ 64 + b) / 2 ^ n % 2 ^ 64 = (b / 2 ^ n) ||| (a * 2 ^ (64 - n) % 2 ^ 64) := by
 have hp := pow_split n hn
 have hpos : 0 < 2 ^ (64 - n) := Nat.two_pow_pos _
 have hpos' : 0 < 2 ^ n := Nat.two_pow_pos _
 constructor
 ·rw [Nat.div_div_eq_div_mul, Nat.mul_comm (2 ^ n), ← Nat.div_div_eq_div_mul, show (a * 2 ^ 64 + b) / 2 ^ 64 = a by omega]
  exact Nat.mod_eq_of_lt (Nat.lt_of_le_of_lt (Nat.div_le_self _ _) ha)
 ·have e1 : a * 2 ^ 64 + b = b + 2 ^ n * (a * 2 ^ (64 - n)) := by rw [Nat.add_comm, ← hp, Nat.mul_left_comm]
  have e2 : b / 2 ^ n < 2 ^ (64 - n) := by rw [Nat.div_lt_iff_lt_mul hpos', Nat.mul_comm, hp]; exact hb
  have e3 : a * 2 ^ (64 - n) % 2 ^ 64 = 2 ^ (64 - n) * (a % 2 ^ n) := by
   rw [← hp, Nat.mul_comm (2 ^ n), Nat.mul_comm a, Nat.mul_mod_mul_left]
  rw [e1, Nat.add_mul_div_left _ _ hpos', Nat.add_mod, e3, Nat.or_comm, ← Nat.two_pow_add_eq_or_of_lt e2, Nat.mod_eq_of_lt (a := b / 2 ^ n) (Nat.lt_of_le_of_lt (Nat.div_le_self _ _) hb), Nat.add_comm]
  refine Nat.mod_eq_of_lt ?_
  have : a % 2 ^ n + 1 ≤ 2 ^ n := Nat.mod_lt _ hpos'
  calc 2 ^ (64 - n) * (a % 2 ^ n) + b / 2 ^ n < 2 ^ (64 - n) * (a % 2 ^ n) + 2 ^ (64 - n) := by omega
   _ = 2 ^ (64 - n) * (a % 2 ^ n + 1) := by rw [Nat.mul_add, Nat.mul_one]
   _ ≤ 2 ^ (64 - n) * 2 ^ n := Nat.mul_le_mul_left _ this
   _ = 2 ^ 64 := by rw [Nat.mul_comm]; exact hp
theorem word_div {x : Int} (hx : Word x) (k : Nat) : Word (x / 2 ^ k) := by
 obtain ⟨a, rfl⟩ := Int.eq_ofNat_of_zero_le hx.1
 have : a / 2 ^ k ≤ a := Nat.div_le_self _ _
 have e : (a : Int) / 2 ^ k = ((a / 2 ^ k : Nat) : Int) := by simp
 have := hx.2
 rw [e]; unfold Word; generalize a / 2 ^ k = z at *; omega
theorem word_wrap (x : Int) : Word (IntKind.u64.wrap x) := by unfold Word; rw [IntKind.wrap_u64]; omega
theorem shl_pure (ah al n : Int) (h1 : Word ah) (h2 : Word al) (hn0 : 0 ≤ n) (hn : n ≤ 64) :
  hi (wv ah al * 2 ^ n.toNat) = bits .or .u64 (IntKind.u64.wrap (ah * 2 ^ n.toNat)) (al / 2 ^ (64 - n).toNat) ∧ lo (wv ah al * 2 ^ n.toNat) = IntKind.u64.wrap (al * 2 ^ n.toNat) := by
 rw [bits_or_w (word_wrap _) (word_div h2 _)]
 obtain ⟨a, rfl⟩ := Int.eq_ofNat_of_zero_le h1.1
 obtain ⟨b, rfl⟩ := Int.eq_ofNat_of_zero_le h2.1
 obtain ⟨k, rfl⟩ := Int.eq_ofNat_of_zero_le hn0
 have ha := h1.2; have hb := h2.2
 obtain ⟨p1, p2⟩ := shl_nat a b k (by omega) (by omega) (by omega)
 have e0 : wv (a : Int) (b : Int) * 2 ^ (k : Int).toNat = (((a * 2 ^ 64 + b) * 2 ^ k : Nat) : Int) := by unfold wv; simp
 have e1 : IntKind.u64.wrap ((a : Int) * 2 ^ (k : Int).toNat) = ((a * 2 ^ k % 2 ^ 64 : Nat) : Int) := by rw [IntKind.wrap_u64]; simp
 have e2 : IntKind.u64.wrap ((b : Int) * 2 ^ (k : Int).toNat) = ((b * 2 ^ k % 2 ^ 64 : Nat) : Int) := by rw [IntKind.wrap_u64]; simp
 have e3 : (64 - (k : Int)).toNat = 64 - k := by omega
 have e4 : (b : Int) / 2 ^ (64 - k) = ((b / 2 ^ (64 - k) : Nat) : Int) := by simp
 rw [e0, hi_nat, lo_nat, p1, p2, e1, e2, e3, e4]; unfold orI
 exact ⟨rfl, rfl⟩
theorem shr_pure (ah al n : Int) (h1 : Word ah) (h2 : Word al) (hn0 : 0 ≤ n) (hn : n ≤ 64) :
  hi (wv ah al / 2 ^ n.toNat) = ah / 2 ^ n.toNat ∧ lo (wv ah al / 2 ^ n.toNat) = bits .or .u64 (al / 2 ^ n.toNat) (IntKind.u64.wrap (ah * 2 ^ (64 - n).toNat)) := by
 rw [bits_or_w (word_div h2 _) (word_wrap _)]
 obtain ⟨a, rfl⟩ := Int.eq_ofNat_of_zero_le h1.1
 obtain ⟨b, rfl⟩ := Int.eq_ofNat_of_zero_le h2.1
 obtain ⟨k, rfl⟩ := Int.eq_ofNat_of_zero_le hn0
 have ha := h1.2; have hb := h2.2
 obtain ⟨p1, p2⟩ := shr_nat a b k (by omega) (by omega) (by omega)
 have e0 : wv (a : Int) (b : Int) / 2 ^ (k : Int).toNat = (((a * 2 ^ 64 + b) / 2 ^ k : Nat) : Int) := by unfold wv; simp
 have e3 : (64 - (k : Int)).toNat = 64 - k := by omega
 have e1 : IntKind.u64.wrap ((a : Int) * 2 ^ (64 - k)) = ((a * 2 ^ (64 - k) % 2 ^ 64 : Nat) : Int) := by rw [IntKind.wrap_u64]; simp
 have e4 : (a : Int) / 2 ^ (k : Int).toNat = ((a / 2 ^ k : Nat) : Int) := by simp
 have e5 : (b : Int) / 2 ^ (k : Int).toNat = ((b / 2 ^ k : Nat) : Int) := by simp
 rw [e0, hi_nat, lo_nat, p1, p2, e3, e1, e4, e5]; unfold orI
 exact ⟨rfl, rfl⟩
theorem shl_far (ah al n : Int) (h1 : Word ah) (h2 : Word al) (hn0 : 64 ≤ n) :
  hi (wv ah al * 2 ^ n.toNat) = IntKind.u64.wrap (al * 2 ^ (n - 64).toNat) ∧ lo (wv ah al * 2 ^ n.toNat) = 0 := by
 obtain ⟨k, hk⟩ := Int.eq_ofNat_of_zero_le (show 0 ≤ n - 64 by omega)
 have e : n.toNat = 64 + k := by omega
 rw [hk, e, IntKind.wrap_u64, Int.pow_add, Int.toNat_natCast]; unfold hi lo wv
 rw [show (ah * 18446744073709551616 + al) * (2 ^ 64 * 2 ^ k) = (ah * 2 ^ k * 18446744073709551616 + al * 2 ^ k) * 18446744073709551616 by
  rw [Int.add_mul, Int.add_mul]; congr 1 <;> (generalize (2 : Int) ^ k = z; rw [show (2 : Int) ^ 64 = 18446744073709551616 by decide]; simp only [Int.mul_assoc, Int.mul_comm, Int.mul_left_comm])]
 generalize ah * 2 ^ k = u; generalize al * 2 ^ k = v
 omega
theorem shr_far (ah al n : Int) (h1 : Word ah) (h2 : Word al) (hn0 : 64 ≤ n) :
  hi (wv ah al / 2 ^ n.toNat) = 0 ∧ lo (wv ah al / 2 ^ n.toNat) = ah / 2 ^ (n - 64).toNat := by
 obtain ⟨k, hk⟩ := Int.eq_ofNat_of_zero_le (show 0 ≤ n - 64 by omega)
 have e : n.toNat = 64 + k := by omega
 have hd := word_div h1 k
 rw [hk, e, Int.pow_add, Int.toNat_natCast, ← Int.ediv_ediv_of_nonneg (by decide)]
 have : wv ah al / 2 ^ 64 = ah := by obtain ⟨_, _⟩ := h1; obtain ⟨_, _⟩ := h2; unfold wv; omega
 rw [this]; unfold hi lo; unfold Word at hd; generalize ah / 2 ^ k = z at *; omega
theorem pow_ge (n : Nat) (h : 128 ≤ n) : (2 : Int) ^ n = MM * 2 ^ (n - 128) := by
 obtain ⟨k, rfl⟩ := Nat.exists_eq_add_of_le h
 rw [Int.pow_add, Nat.add_sub_cancel_left]; rfl
theorem shl_out (v n : Int) (hn0 : 128 ≤ n) : hi (v * 2 ^ n.toNat) = 0 ∧ lo (v * 2 ^ n.toNat) = 0 := by
 rw [pow_ge n.toNat (by omega)]
 rw [show v * (MM * 2 ^ (n.toNat - 128)) = v * 2 ^ (n.toNat - 128) * MM by rw [Int.mul_assoc, Int.mul_comm MM]]
 generalize v * 2 ^ (n.toNat - 128) = z; unfold hi lo MM; omega
theorem shr_out (v n : Int) (h0 : 0 ≤ v) (h1 : v < MM) (hn0 : 128 ≤ n) : v / 2 ^ n.toNat = 0 := by
 refine Int.ediv_eq_zero_of_lt h0 (Int.lt_of_lt_of_le h1 ?_)
 rw [pow_ge n.toNat (by omega)]
 have : (0 : Int) < 2 ^ (n.toNat - 128) := Int.pow_pos (by decide)
 unfold MM; generalize (2 : Int) ^ (n.toNat - 128) = z at *; omega
end Go.Proofs.YtboinifeemghaaaGreatDoor
namespace Go.Proofs.YtboinifeemghaaaGreatDoor
open Go.RowKit
theorem bcell {W w1 : World} (hb : Below W.heap.size W w1) : (∀ b o, b < W.heap.size → w1.cell? ⟨b, o, none⟩ = W.cell? ⟨b, o, none⟩) ∧ (∀ b o, b < W.heap.size → w1.frozen? ⟨b, o, none⟩ = W.frozen? ⟨b, o, none⟩) :=
 ⟨fun b o h => hb.cell (p := ⟨b, o, none⟩) h, fun b o h => hb.frozen (p := ⟨b, o, none⟩) h⟩
theorem of_any (n : Int) (w : World) :
  Calls Tryz.prog 63 #[.int .u64 n] w fun e w' => e = .returned (.agg #[.int .u64 0, .int .u64 n]) ∧ Below w.heap.size w w' := by
 go_enter Tryz.func63, Tryz.ntmps63
 go_wp2
 exact bodyPost_ret (v := .agg #[.int .u64 0, .int .u64 n]) (by simp [results, Tryz.results63, go_sem]) rfl ⟨rfl, (by repeat (first | exact Below.refl _ _ | assumption | (with_reducible refine Below.drew ?_) | ((with_reducible first | refine Below.setCell ?_ ?h _ | refine Below.alloc ?_ ?h _); case h => first | omega | (simp; done) | (simp; omega))))⟩
theorem left_any (ah al n : Int) (h1 : Word ah) (h2 : Word al) (w : World) :
  Calls Tryz.prog 99 #[.agg #[.int .u64 ah, .int .u64 al], .int .i64 n] w fun e w' =>
   e = .returned (.agg #[.int .u64 (hi (wv ah al * 2 ^ n.toNat)), .int .u64 (lo (wv ah al * 2 ^ n.toNat))]) ∧ Below w.heap.size w w' := by
 by_cases c1 : n < 1
 ·have e0 : n.toNat = 0 := by omega
  rw [e0, Int.pow_zero, Int.mul_one, hi_wv h1 h2, lo_wv h2]; clear e0 h1 h2
  go_enter Tryz.func99, Tryz.ntmps99
  go_wp2
  exact bodyPost_ret (v := .agg #[.int .u64 ah, .int .u64 al]) (by simp [results, Tryz.results99, go_sem]) rfl ⟨rfl, (by repeat (first | exact Below.refl _ _ | assumption | (with_reducible refine Below.drew ?_) | ((with_reducible first | refine Below.setCell ?_ ?h _ | refine Below.alloc ?_ ?h _); case h => first | omega | (simp; done) | (simp; omega))))⟩
 by_cases c2 : 128 ≤ n
 ·obtain ⟨P1, P2⟩ := shl_out (wv ah al) n c2
  rw [P1, P2]; clear P1 P2 h1 h2
  go_enter Tryz.func99, Tryz.ntmps99
  go_wp2
  exact bodyPost_ret (v := .agg #[.int .u64 0, .int .u64 0]) (by simp [results, Tryz.results99, go_sem]) rfl ⟨rfl, (by repeat (first | exact Below.refl _ _ | assumption | (with_reducible refine Below.drew ?_) | ((with_reducible first | refine Below.setCell ?_ ?h _ | refine Below.alloc ?_ ?h _); case h => first | omega | (simp; done) | (simp; omega))))⟩
 by_cases c3 : 64 ≤ n
 ·obtain ⟨P1, P2⟩ := shl_far ah al n h1 h2 c3
  rw [P1, P2]; clear P1 P2
  obtain ⟨b1, b2⟩ := h2; clear h1
  go_enter Tryz.func99, Tryz.ntmps99
  go_wp2
  exact bodyPost_ret (v := .agg #[.int .u64 (IntKind.u64.wrap (al * 2 ^ (n - 64).toNat)), .int .u64 0]) (by simp [results, Tryz.results99, go_sem]) rfl ⟨rfl, (by repeat (first | exact Below.refl _ _ | assumption | (with_reducible refine Below.drew ?_) | ((with_reducible first | refine Below.setCell ?_ ?h _ | refine Below.alloc ?_ ?h _); case h => first | omega | (simp; done) | (simp; omega))))⟩
 obtain ⟨P1, P2⟩ := shl_pure ah al n h1 h2 (by omega) (by omega)
 rw [P1, P2]; clear P1 P2
 obtain ⟨a1, a2⟩ := h1; obtain ⟨b1, b2⟩ := h2
 go_enter Tryz.func99, Tryz.ntmps99
 go_wp2
 go_region
 all_goals go_wp2
 all_goals exact bodyPost_ret (v := .agg #[.int .u64 (bits .or .u64 (IntKind.u64.wrap (ah * 2 ^ n.toNat)) (al / 2 ^ (64 - n).toNat)), .int .u64 (IntKind.u64.wrap (al * 2 ^ n.toNat))]) (by simp [results, Tryz.results99, go_sem]) rfl ⟨rfl, (by repeat (first | exact Below.refl _ _ | assumption | (with_reducible refine Below.drew ?_) | ((with_reducible first | refine Below.setCell ?_ ?h _ | refine Below.alloc ?_ ?h _); case h => first | omega | (simp; done) | (simp; omega))))⟩
theorem right_any (ah al n : Int) (h1 : Word ah) (h2 : Word al) (w : World) :
  Calls Tryz.prog 118 #[.agg #[.int .u64 ah, .int .u64 al], .int .i64 n] w fun e w' =>
   e = .returned (.agg #[.int .u64 (hi (wv ah al / 2 ^ n.toNat)), .int .u64 (lo (wv ah al / 2 ^ n.toNat))]) ∧ Below w.heap.size w w' := by
 by_cases c1 : n < 1
 ·have e0 : n.toNat = 0 := by omega
  rw [e0, Int.pow_zero, Int.ediv_one, hi_wv h1 h2, lo_wv h2]; clear e0 h1 h2
  go_enter Tryz.func118, Tryz.ntmps118
  go_wp2
  exact bodyPost_ret (v := .agg #[.int .u64 ah, .int .u64 al]) (by simp [results, Tryz.results118, go_sem]) rfl ⟨rfl, (by repeat (first | exact Below.refl _ _ | assumption | (with_reducible refine Below.drew ?_) | ((with_reducible first | refine Below.setCell ?_ ?h _ | refine Below.alloc ?_ ?h _); case h => first | omega | (simp; done) | (simp; omega))))⟩
 by_cases c2 : 128 ≤ n
 ·have P := shr_out (wv ah al) n (wv_nonneg h1 h2) (wv_lt h1 h2) c2
  rw [P, show hi 0 = 0 from rfl, show lo 0 = 0 from rfl]; clear P h1 h2
  go_enter Tryz.func118, Tryz.ntmps118
  go_wp2
  exact bodyPost_ret (v := .agg #[.int .u64 0, .int .u64 0]) (by simp [results, Tryz.results118, go_sem]) rfl ⟨rfl, (by repeat (first | exact Below.refl _ _ | assumption | (with_reducible refine Below.drew ?_) | ((with_reducible first | refine Below.setCell ?_ ?h _ | refine Below.alloc ?_ ?h _); case h => first | omega | (simp; done) | (simp; omega))))⟩
 by_cases c3 : 64 ≤ n
 ·obtain ⟨P1, P2⟩ := shr_far ah al n h1 h2 c3
  rw [P1, P2]; clear P1 P2
  obtain ⟨a1, a2⟩ := h1; clear h2
  go_enter Tryz.func118, Tryz.ntmps118
  go_wp2
  exact bodyPost_ret (v := .agg #[.int .u64 0, .int .u64 (ah / 2 ^ (n - 64).toNat)]) (by simp [results, Tryz.results118, go_sem]) rfl ⟨rfl, (by repeat (first | exact Below.refl _ _ | assumption | (with_reducible refine Below.drew ?_) | ((with_reducible first | refine Below.setCell ?_ ?h _ | refine Below.alloc ?_ ?h _); case h => first | omega | (simp; done) | (simp; omega))))⟩
 obtain ⟨P1, P2⟩ := shr_pure ah al n h1 h2 (by omega) (by omega)
 rw [P1, P2]; clear P1 P2
 obtain ⟨a1, a2⟩ := h1; obtain ⟨b1, b2⟩ := h2
 go_enter Tryz.func118, Tryz.ntmps118
 go_wp2
 go_region
 all_goals go_wp2
 all_goals exact bodyPost_ret (v := .agg #[.int .u64 (ah / 2 ^ n.toNat), .int .u64 (bits .or .u64 (al / 2 ^ n.toNat) (IntKind.u64.wrap (ah * 2 ^ (64 - n).toNat)))]) (by simp [results, Tryz.results118, go_sem]) rfl ⟨rfl, (by repeat (first | exact Below.refl _ _ | assumption | (with_reducible refine Below.drew ?_) | ((with_reducible first | refine Below.setCell ?_ ?h _ | refine Below.alloc ?_ ?h _); case h => first | omega | (simp; done) | (simp; omega))))⟩
theorem hi_mulmod (A k : Int) : hi (A % MM * k) = hi (A * k) := hi_congr (by rw [Int.mul_emod, Int.emod_emod, ← Int.mul_emod])
theorem lo_mulmod (A k : Int) : lo (A % MM * k) = lo (A * k) := lo_congr (by rw [Int.mul_emod, Int.emod_emod, ← Int.mul_emod])
theorem left_h (A n : Int) (w : World) :
  Calls Tryz.prog 99 #[.agg #[.int .u64 (hi A), .int .u64 (lo A)], .int .i64 n] w fun e w' =>
   e = .returned (.agg #[.int .u64 (hi (A * 2 ^ n.toNat)), .int .u64 (lo (A * 2 ^ n.toNat))]) ∧ Below w.heap.size w w' := by
 have h := left_any (hi A) (lo A) n (word_hi _) (word_lo _) w
 rw [wv_hi_lo, hi_mulmod, lo_mulmod] at h
 exact h
theorem right_h (A n : Int) (w : World) :
  Calls Tryz.prog 118 #[.agg #[.int .u64 (hi A), .int .u64 (lo A)], .int .i64 n] w fun e w' =>
   e = .returned (.agg #[.int .u64 (hi (A % MM / 2 ^ n.toNat)), .int .u64 (lo (A % MM / 2 ^ n.toNat))]) ∧ Below w.heap.size w w' := by
 have h := right_any (hi A) (lo A) n (word_hi _) (word_lo _) w
 rw [wv_hi_lo] at h
 exact h
theorem cmp_pure (ah al bh bl : Int) (h1 : Word ah) (h2 : Word al) (h3 : Word bh) (h4 : Word bl) :
  cmpI (wv ah al) (wv bh bl) = if ah = bh then (if al = bl then 0 else if al < bl then -1 else 1) else if ah < bh then -1 else 1 := by
 obtain ⟨a1, a2⟩ := h1; obtain ⟨b1, b2⟩ := h2; obtain ⟨c1, c2⟩ := h3; obtain ⟨d1, d2⟩ := h4
 unfold cmpI wv
 repeat' split
 all_goals omega
theorem cmp_any (ah al bh bl : Int) (h1 : Word ah) (h2 : Word al) (h3 : Word bh) (h4 : Word bl) (w : World) :
  Calls Tryz.prog 62 #[.agg #[.int .u64 ah, .int .u64 al], .agg #[.int .u64 bh, .int .u64 bl]] w fun e w' =>
   e = .returned (.int .i64 (cmpI (wv ah al) (wv bh bl))) ∧ Below w.heap.size w w' := by
 have H := Lib.hid (cmp_pure ah al bh bl h1 h2 h3 h4)
 obtain ⟨a1, a2⟩ := h1; obtain ⟨b1, b2⟩ := h2; obtain ⟨c1, c2⟩ := h3; obtain ⟨d1, d2⟩ := h4
 go_enter Tryz.func62, Tryz.ntmps62
 go_wp2
 all_goals go_ret
 all_goals refine ⟨?_, (by repeat (first | exact Below.refl _ _ | assumption | (with_reducible refine Below.drew ?_) | ((with_reducible first | refine Below.setCell ?_ ?h _ | refine Below.alloc ?_ ?h _); case h => first | omega | (simp; done) | (simp; omega))))⟩
 all_goals rw [H.out]
 all_goals (refine ret_int ?_; repeat' split)
 all_goals first | rfl | omega
def addB (a b : Int) : Bool := decide (MM ≤ a + b)
theorem add_pure0 (ah al bh bl : Int) (h1 : Word ah) (h2 : Word al) (h3 : Word bh) (h4 : Word bl) (hc : al + bl < 18446744073709551616) :
  hi (wv ah al + wv bh bl) = IntKind.u64.wrap (ah + bh) ∧ lo (wv ah al + wv bh bl) = al + bl ∧
  decide (cmpI (wv (IntKind.u64.wrap (ah + bh)) (al + bl)) (wv ah al) < 0) = addB (wv ah al) (wv bh bl) := by
 obtain ⟨a1, a2⟩ := h1; obtain ⟨b1, b2⟩ := h2; obtain ⟨c1, c2⟩ := h3; obtain ⟨d1, d2⟩ := h4
 rw [cmpI_neg, IntKind.wrap_u64]; unfold hi lo wv addB MM
 refine ⟨by omega, by omega, ?_⟩
 rw [decide_eq_decide]; omega
theorem add_pure1 (ah al bh bl : Int) (h1 : Word ah) (h2 : Word al) (h3 : Word bh) (h4 : Word bl) (hc : ¬ al + bl < 18446744073709551616) :
  hi (wv ah al + wv bh bl) = IntKind.u64.wrap (IntKind.u64.wrap (ah + bh) + 1) ∧ lo (wv ah al + wv bh bl) = IntKind.u64.wrap (al + bl) ∧
  decide (cmpI (wv (IntKind.u64.wrap (IntKind.u64.wrap (ah + bh) + 1)) (IntKind.u64.wrap (al + bl))) (wv ah al) < 0) = addB (wv ah al) (wv bh bl) := by
 obtain ⟨a1, a2⟩ := h1; obtain ⟨b1, b2⟩ := h2; obtain ⟨c1, c2⟩ := h3; obtain ⟨d1, d2⟩ := h4
 rw [cmpI_neg]; simp only [IntKind.wrap_u64]; unfold hi lo wv addB MM
 refine ⟨by omega, by omega, ?_⟩
 rw [decide_eq_decide]; omega
theorem add_any (ah al bh bl : Int) (h1 : Word ah) (h2 : Word al) (h3 : Word bh) (h4 : Word bl) (w : World) :
  Calls Tryz.prog 135 #[.agg #[.int .u64 ah, .int .u64 al], .agg #[.int .u64 bh, .int .u64 bl]] w fun e w' =>
   e = .returned (.tuple #[.agg #[.int .u64 (hi (wv ah al + wv bh bl)), .int .u64 (lo (wv ah al + wv bh bl))], .bool (addB (wv ah al) (wv bh bl))]) ∧ Below w.heap.size w w' := by
 have h1' := h1; have h2' := h2; have h3' := h3; have h4' := h4
 have hw := word_wrap (ah + bh)
 have hw1 := word_wrap (IntKind.u64.wrap (ah + bh) + 1)
 have hw2 := word_wrap (al + bl)
 have hl : al + bl < 18446744073709551616 → Word (al + bl) := fun h => ⟨by have := h2.1; have := h4.1; omega, h⟩
 by_cases hc : al + bl < 18446744073709551616
 ·have hl := hl hc
  obtain ⟨P1, P2, P3⟩ := add_pure0 ah al bh bl h1 h2 h3 h4 hc
  rw [P1, P2, ← P3]; clear P1 P2 P3
  obtain ⟨a1, a2⟩ := h1; obtain ⟨b1, b2⟩ := h2; obtain ⟨c1, c2⟩ := h3; obtain ⟨d1, d2⟩ := h4
  go_enter Tryz.func135, Tryz.ntmps135
  go_wp2
  go_region_held3 (fun w' => w'.cell? ⟨w.heap.size + 1 + 1 + 1, 0, none⟩ = some (.int .u64 (IntKind.u64.wrap (ah + bh))) ∧ w'.cell? ⟨w.heap.size + 1 + 1 + 1, 1, none⟩ = some (.int .u64 (al + bl)) ∧ w'.cell? ⟨w.heap.size, 0, none⟩ = some (.int .u64 ah) ∧ w'.cell? ⟨w.heap.size, 1, none⟩ = some (.int .u64 al)) (first | (simp [go_sem, World.cell?_alloc_past]; done) | ((repeat' apply And.intro) <;> (repeat (first | assumption | (simp only [World.cell?_drew]) | (with_reducible refine (World.cell?_setCell_far _ _ _ _ ?h).trans ?_; case h => first | omega | (simp; done) | (simp; omega)) | (with_reducible refine (hb4.cell ?h).trans ?_; case h => first | omega | (simp; done) | (simp; omega)) | (with_reducible refine (hb3.cell ?h).trans ?_; case h => first | omega | (simp; done) | (simp; omega)) | (with_reducible refine (hb2.cell ?h).trans ?_; case h => first | omega | (simp; done) | (simp; omega)) | (with_reducible refine (hb.cell ?h).trans ?_; case h => first | omega | (simp; done) | (simp; omega)) | (with_reducible refine (hb0.cell ?h).trans ?_; case h => first | omega | (simp; done) | (simp; omega)))) <;> (try (simp [go_sem, World.cell?_alloc_past]))))
   (first
    | (go_at_call 62; refine (cmp_any _ _ _ _ hw hl h1' h2' _).mono ?_; rintro e w' ⟨rfl, hb⟩; obtain ⟨q1, q2⟩ := bcell hb))
  go_wp2
  refine bodyPost_ret (v := .tuple #[.agg #[.int .u64 (IntKind.u64.wrap (ah + bh)), .int .u64 (al + bl)], .bool (decide (cmpI (wv (IntKind.u64.wrap (ah + bh)) (al + bl)) (wv ah al) < 0))]) (by simp [results, Tryz.results135, go_sem, q1]) rfl ⟨rfl, ?_⟩
  refine Below.setCell (Below.setCell (Below.trans ?_ (hb.mono (by simp <;> omega))) (by simp <;> omega) _) (by simp <;> omega) _
  exact (by repeat (first | exact Below.refl _ _ | assumption | (with_reducible refine Below.drew ?_) | ((with_reducible first | refine Below.setCell ?_ ?h _ | refine Below.alloc ?_ ?h _ | refine Below.trans ?_ (hb4.mono ?h) | refine Below.trans ?_ (hb3.mono ?h) | refine Below.trans ?_ (hb2.mono ?h) | refine Below.trans ?_ (hb.mono ?h) | refine Below.trans ?_ (hb0.mono ?h)); case h => first | omega | (simp; done) | (simp; omega))))
 ·obtain ⟨P1, P2, P3⟩ := add_pure1 ah al bh bl h1 h2 h3 h4 hc
  rw [P1, P2, ← P3]; clear P1 P2 P3
  obtain ⟨a1, a2⟩ := h1; obtain ⟨b1, b2⟩ := h2; obtain ⟨c1, c2⟩ := h3; obtain ⟨d1, d2⟩ := h4
  have hlt : IntKind.u64.wrap (al + bl) < al := by rw [IntKind.wrap_u64]; omega
  go_enter Tryz.func135, Tryz.ntmps135
  go_wp2
  go_region_held3 (fun w' => w'.cell? ⟨w.heap.size + 1 + 1 + 1, 0, none⟩ = some (.int .u64 (IntKind.u64.wrap (IntKind.u64.wrap (ah + bh) + 1))) ∧ w'.cell? ⟨w.heap.size + 1 + 1 + 1, 1, none⟩ = some (.int .u64 (IntKind.u64.wrap (al + bl))) ∧ w'.cell? ⟨w.heap.size, 0, none⟩ = some (.int .u64 ah) ∧ w'.cell? ⟨w.heap.size, 1, none⟩ = some (.int .u64 al)) (first | (simp [go_sem, World.cell?_alloc_past]; done) | ((repeat' apply And.intro) <;> (repeat (first | assumption | (simp only [World.cell?_drew]) | (with_reducible refine (World.cell?_setCell_far _ _ _ _ ?h).trans ?_; case h => first | omega | (simp; done) | (simp; omega)) | (with_reducible refine (hb4.cell ?h).trans ?_; case h => first | omega | (simp; done) | (simp; omega)) | (with_reducible refine (hb3.cell ?h).trans ?_; case h => first | omega | (simp; done) | (simp; omega)) | (with_reducible refine (hb2.cell ?h).trans ?_; case h => first | omega | (simp; done) | (simp; omega)) | (with_reducible refine (hb.cell ?h).trans ?_; case h => first | omega | (simp; done) | (simp; omega)) | (with_reducible refine (hb0.cell ?h).trans ?_; case h => first | omega | (simp; done) | (simp; omega)))) <;> (try (simp [go_sem, World.cell?_alloc_past]))))
   (first
    | (go_at_call 62; refine (cmp_any _ _ _ _ hw1 hw2 h1' h2' _).mono ?_; rintro e w' ⟨rfl, hb⟩; obtain ⟨q1, q2⟩ := bcell hb))
  go_wp2
  refine bodyPost_ret (v := .tuple #[.agg #[.int .u64 (IntKind.u64.wrap (IntKind.u64.wrap (ah + bh) + 1)), .int .u64 (IntKind.u64.wrap (al + bl))], .bool (decide (cmpI (wv (IntKind.u64.wrap (IntKind.u64.wrap (ah + bh) + 1)) (IntKind.u64.wrap (al + bl))) (wv ah al) < 0))]) (by simp [results, Tryz.results135, go_sem, q1]) rfl ⟨rfl, ?_⟩
  refine Below.setCell (Below.setCell (Below.trans ?_ (hb.mono (by simp <;> omega))) (by simp <;> omega) _) (by simp <;> omega) _
  exact (by repeat (first | exact Below.refl _ _ | assumption | (with_reducible refine Below.drew ?_) | ((with_reducible first | refine Below.setCell ?_ ?h _ | refine Below.alloc ?_ ?h _ | refine Below.trans ?_ (hb4.mono ?h) | refine Below.trans ?_ (hb3.mono ?h) | refine Below.trans ?_ (hb2.mono ?h) | refine Below.trans ?_ (hb.mono ?h) | refine Below.trans ?_ (hb0.mono ?h)); case h => first | omega | (simp; done) | (simp; omega))))
theorem hi_addmod (A B : Int) : hi (A % MM + B % MM) = hi (A + B) := hi_congr (by simp)
theorem lo_addmod (A B : Int) : lo (A % MM + B % MM) = lo (A + B) := lo_congr (by simp)
theorem add_h (A B : Int) (w : World) :
  Calls Tryz.prog 135 #[.agg #[.int .u64 (hi A), .int .u64 (lo A)], .agg #[.int .u64 (hi B), .int .u64 (lo B)]] w fun e w' =>
   e = .returned (.tuple #[.agg #[.int .u64 (hi (A + B)), .int .u64 (lo (A + B))], .bool (addB (A % MM) (B % MM))]) ∧ Below w.heap.size w w' := by
 have h := add_any (hi A) (lo A) (hi B) (lo B) (word_hi _) (word_lo _) (word_hi _) (word_lo _) w
 rw [wv_hi_lo, wv_hi_lo, hi_addmod, lo_addmod] at h
 exact h
theorem cmp_h (A B : Int) (w : World) :
  Calls Tryz.prog 62 #[.agg #[.int .u64 (hi A), .int .u64 (lo A)], .agg #[.int .u64 (hi B), .int .u64 (lo B)]] w fun e w' =>
   e = .returned (.int .i64 (cmpI (A % MM) (B % MM))) ∧ Below w.heap.size w w' := by
 have h := cmp_any (hi A) (lo A) (hi B) (lo B) (word_hi _) (word_lo _) (word_hi _) (word_lo _) w
 rw [wv_hi_lo, wv_hi_lo] at h
 exact h
theorem or_any (ah al bh bl : Int) (h1 : Word ah) (h2 : Word al) (h3 : Word bh) (h4 : Word bl) (w : World) :
  Calls Tryz.prog 134 #[.agg #[.int .u64 ah, .int .u64 al], .agg #[.int .u64 bh, .int .u64 bl]] w fun e w' =>
   e = .returned (.agg #[.int .u64 (hi (orI (wv ah al) (wv bh bl))), .int .u64 (lo (orI (wv ah al) (wv bh bl)))]) ∧ Below w.heap.size w w' := by
 obtain ⟨P1, P2⟩ := or_pure h1 h2 h3 h4
 rw [P1, P2]; clear P1 P2 h1 h2 h3 h4
 go_enter Tryz.func134, Tryz.ntmps134
 go_wp2
 exact bodyPost_ret (v := .agg #[.int .u64 (bits .or .u64 ah bh), .int .u64 (bits .or .u64 al bl)]) (by simp [results, Tryz.results134, go_sem]) rfl ⟨rfl, (by repeat (first | exact Below.refl _ _ | assumption | (with_reducible refine Below.drew ?_) | ((with_reducible first | refine Below.setCell ?_ ?h _ | refine Below.alloc ?_ ?h _); case h => first | omega | (simp; done) | (simp; omega))))⟩
theorem or_h (A B : Int) (w : World) :
  Calls Tryz.prog 134 #[.agg #[.int .u64 (hi A), .int .u64 (lo A)], .agg #[.int .u64 (hi B), .int .u64 (lo B)]] w fun e w' =>
   e = .returned (.agg #[.int .u64 (hi (orI (A % MM) (B % MM))), .int .u64 (lo (orI (A % MM) (B % MM)))]) ∧ Below w.heap.size w w' := by
 have h := or_any (hi A) (lo A) (hi B) (lo B) (word_hi _) (word_lo _) (word_hi _) (word_lo _) w
 rw [wv_hi_lo, wv_hi_lo] at h
 exact h
def grp (A : Int) (i : Nat) : Int := A % MM / 2 ^ (112 - 16 * i) % 65536
def arr8 (f : Nat → Int) : Value := .agg #[.int .u16 (f 0), .int .u16 (f 1), .int .u16 (f 2), .int .u16 (f 3), .int .u16 (f 4), .int .u16 (f 5), .int .u16 (f 6), .int .u16 (f 7)]
theorem grp_range (A : Int) (i : Nat) : 0 ≤ grp A i ∧ grp A i ≤ 65535 := by unfold grp; omega
def cells8 (f : Nat → Int) (j : Nat) : Array Value := #[.int .u16 (if 0 < j then f 0 else 0), .int .u16 (if 1 < j then f 1 else 0), .int .u16 (if 2 < j then f 2 else 0), .int .u16 (if 3 < j then f 3 else 0), .int .u16 (if 4 < j then f 4 else 0), .int .u16 (if 5 < j then f 5 else 0), .int .u16 (if 6 < j then f 6 else 0), .int .u16 (if 7 < j then f 7 else 0)]
theorem cells8_set (f : Nat → Int) (j : Nat) (h : j < 8) : (cells8 f j).setIfInBounds j (.int .u16 (f j)) = cells8 f (j + 1) := by
 rcases j with _ | _ | _ | _ | _ | _ | _ | _ | j <;> first | rfl | omega
theorem cells8_get (f : Nat → Int) (j i : Nat) (h : i < 8) : (cells8 f j)[i]? = some (.int .u16 (if i < j then f i else 0)) := by
 rcases i with _ | _ | _ | _ | _ | _ | _ | _ | i <;> first | rfl | omega
def zero8 : Array Value := #[.int .u16 0, .int .u16 0, .int .u16 0, .int .u16 0, .int .u16 0, .int .u16 0, .int .u16 0, .int .u16 0]
theorem set8 (a0 a1 a2 a3 a4 a5 a6 a7 : Value) : ((((((((zero8).setIfInBounds 0 a0).setIfInBounds 1 a1).setIfInBounds 2 a2).setIfInBounds 3 a3).setIfInBounds 4 a4).setIfInBounds 5 a5).setIfInBounds 6 a6).setIfInBounds 7 a7 = #[a0, a1, a2, a3, a4, a5, a6, a7] := by simp [zero8]
theorem fieldLo (x y : Value) (w : World) : (Instr.field 73 (.agg #[x, y]) 1).run Tryz.prog w = .ok y w := by kernel_rfl
theorem groups_t (A : Int) (w : World) : Calls Tryz.prog 78 #[.agg #[.int .u64 (hi A), .int .u64 (lo A)]] w fun e w' => e = .returned (arr8 (grp A)) ∧ Below w.heap.size w w' := by
 go_enter Tryz.func78, Tryz.ntmps78
 go_wp2_with fail
 have X0 : Row (((w.alloc (.cells #[.int .u64 (hi A), .int .u64 (lo A)] 73)).alloc (.cells zero8 107)).alloc (.cells zero8 107)) w.heap.size #[.int .u64 (hi A), .int .u64 (lo A)] 73 := ((Row.new w _ _).alloc _).alloc _
 have Z0 : Row (((w.alloc (.cells #[.int .u64 (hi A), .int .u64 (lo A)] 73)).alloc (.cells zero8 107)).alloc (.cells zero8 107)) (w.heap.size + 1) zero8 107 := by simpa using (Row.new (w.alloc (.cells #[.int .u64 (hi A), .int .u64 (lo A)] 73)) zero8 107).alloc (.cells zero8 107)
 have Z1 : Row (((w.alloc (.cells #[.int .u64 (hi A), .int .u64 (lo A)] 73)).alloc (.cells zero8 107)).alloc (.cells zero8 107)) (w.heap.size + 2) (cells8 (grp A) 0) 107 := by
  have h := Row.new ((w.alloc (.cells #[.int .u64 (hi A), .int .u64 (lo A)] 73)).alloc (.cells zero8 107)) zero8 107
  rw [show ((w.alloc (.cells #[.int .u64 (hi A), .int .u64 (lo A)] 73)).alloc (.cells zero8 107)).heap.size = w.heap.size + 2 by simp] at h
  exact h
 have hb0 : Below w.heap.size w (((w.alloc (.cells #[.int .u64 (hi A), .int .u64 (lo A)] 73)).alloc (.cells zero8 107)).alloc (.cells zero8 107)) := (by repeat (first | exact Below.refl _ _ | assumption | (with_reducible refine Below.drew ?_) | ((with_reducible first | refine Below.setCell ?_ ?h _ | refine Below.alloc ?_ ?h _ | refine Below.trans ?_ (hb.mono ?h) | refine Below.trans ?_ (hb0.mono ?h)); case h => first | omega | (simp; done) | (simp; omega))))
 unfold zero8 at X0 Z0 Z1 hb0
 generalize ((w.alloc (.cells #[.int .u64 (hi A), .int .u64 (lo A)] 73)).alloc (.cells #[.int .u16 0, .int .u16 0, .int .u16 0, .int .u16 0, .int .u16 0, .int .u16 0, .int .u16 0, .int .u16 0] 107)).alloc (.cells #[.int .u16 0, .int .u16 0, .int .u16 0, .int .u16 0, .int .u16 0, .int .u16 0, .int .u16 0, .int .u16 0] 107) = w0 at *
 go_loopw [5] (fun i wr => ∃ (j : Nat), j ≤ 8 ∧ i = .int .i64 j ∧ Row wr (w.heap.size + 2) (cells8 (grp A) j) 107 ∧ Row wr (w.heap.size + 1) zero8 107 ∧ Row wr w.heap.size #[.int .u64 (hi A), .int .u64 (lo A)] 73 ∧ Below w.heap.size w wr) (fun i _ => 8 - (intOf i).toNat)
 case atStart => exact ⟨0, by omega, rfl, Z1, Z0, X0, hb0⟩
 case round =>
  clear Z0 Z1 X0 hb0
  obtain ⟨j, hj, rfl, R, R0, X, hb⟩ := hrel
  by_cases hlt : j < 8
  ·have hlb : decide ((j : Int) < 8) = true := by simp; omega
   have x0 := (X.cell 0).trans (show _ = some (Value.int .u64 (hi A)) from rfl)
   have x1 := (X.cell 1).trans (show _ = some (Value.int .u64 (lo A)) from rfl)
   have HR := Lib.hid R
   have HR0 := Lib.hid R0
   have HX := Lib.hid X
   have HB := Lib.hid hb
   clear R R0 X hb
   have q1 : (0 : Int) ≤ 16 * (7 - (j : Int)) := by omega
   have q2 : 16 * (7 - (j : Int)) ≤ 112 := by omega
   go_wp2_with fail
   refine (right_h A (16 * (7 - (j : Int))) wr).mono ?_
   rintro r w1 ⟨rfl, hb1⟩
   have R1 := HR.out.later hb1
   have c0 := (R1.cell j).trans (cells8_get (grp A) j j hlt)
   rw [if_neg (Nat.lt_irrefl j)] at c0
   have f0 := R1.frozen j
   have HR1 := Lib.hid R1
   have HR2 := Lib.hid (HR0.out.later hb1)
   have HX1 := Lib.hid (HX.out.later hb1)
   have HB1 := Lib.hid (below_step HB.out hb1)
   clear R1 HR HR0 HX HB hb1 x0 x1
   have hg : lo (A % MM / 2 ^ (16 * (7 - (j : Int))).toNat) % 65536 = grp A j := by
    unfold grp lo
    rw [show (16 * (7 - (j : Int))).toNat = 112 - 16 * j by omega]
    generalize A % MM / 2 ^ (112 - 16 * j) = q
    omega
   have hfl := fieldLo (.int .u64 (hi (A % MM / 2 ^ (16 * (7 - (j : Int))).toNat))) (.int .u64 (lo (A % MM / 2 ^ (16 * (7 - (j : Int))).toNat))) w1
   have HG := Lib.hid hg
   clear hg
   generalize hq1 : hi (A % MM / 2 ^ (16 * (7 - (j : Int))).toNat) = v1 at *
   generalize hq2 : lo (A % MM / 2 ^ (16 * (7 - (j : Int))).toNat) = v2 at *
   have HQ2 := Lib.hid hq2
   clear hq1 hq2
   go_wp2
   refine ⟨⟨j + 1, by omega, by go_num, ?_, HR2.out.set_far _ _ (by dsimp only; omega), HX1.out.set_far _ _ (by dsimp only; omega), HB1.out.setCell (by dsimp only; omega) _⟩, by simp [intOf]; omega⟩
   have := HR1.out.set j (.int .u16 (grp A j))
   rw [cells8_set (grp A) j hlt, ← HG.out] at this
   exact this
  ·have hj8 : j = 8 := by omega
   subst hj8
   have R' : Row wr (w.heap.size + 2) #[.int .u16 (grp A 0), .int .u16 (grp A 1), .int .u16 (grp A 2), .int .u16 (grp A 3), .int .u16 (grp A 4), .int .u16 (grp A 5), .int .u16 (grp A 6), .int .u16 (grp A 7)] 107 := R
   have c0 := (R'.cell 0).trans (show _ = some (Value.int .u16 (grp A 0)) from rfl)
   have z0 := (R0.cell 0).trans (show _ = some (Value.int .u16 0) from rfl)
   have f0 := R0.frozen 0
   have c1 := (R'.cell 1).trans (show _ = some (Value.int .u16 (grp A 1)) from rfl)
   have z1 := (R0.cell 1).trans (show _ = some (Value.int .u16 0) from rfl)
   have f1 := R0.frozen 1
   have c2 := (R'.cell 2).trans (show _ = some (Value.int .u16 (grp A 2)) from rfl)
   have z2 := (R0.cell 2).trans (show _ = some (Value.int .u16 0) from rfl)
   have f2 := R0.frozen 2
   have c3 := (R'.cell 3).trans (show _ = some (Value.int .u16 (grp A 3)) from rfl)
   have z3 := (R0.cell 3).trans (show _ = some (Value.int .u16 0) from rfl)
   have f3 := R0.frozen 3
   have c4 := (R'.cell 4).trans (show _ = some (Value.int .u16 (grp A 4)) from rfl)
   have z4 := (R0.cell 4).trans (show _ = some (Value.int .u16 0) from rfl)
   have f4 := R0.frozen 4
   have c5 := (R'.cell 5).trans (show _ = some (Value.int .u16 (grp A 5)) from rfl)
   have z5 := (R0.cell 5).trans (show _ = some (Value.int .u16 0) from rfl)
   have f5 := R0.frozen 5
   have c6 := (R'.cell 6).trans (show _ = some (Value.int .u16 (grp A 6)) from rfl)
   have z6 := (R0.cell 6).trans (show _ = some (Value.int .u16 0) from rfl)
   have f6 := R0.frozen 6
   have c7 := (R'.cell 7).trans (show _ = some (Value.int .u16 (grp A 7)) from rfl)
   have z7 := (R0.cell 7).trans (show _ = some (Value.int .u16 0) from rfl)
   have f7 := R0.frozen 7
   have HB := Lib.hid hb
   have HR0 := Lib.hid R0
   clear R R' R0 X hb
   go_wp2
   have Q := (((((((HR0.out.set 0 (.int .u16 (grp A 0))).set 1 (.int .u16 (grp A 1))).set 2 (.int .u16 (grp A 2))).set 3 (.int .u16 (grp A 3))).set 4 (.int .u16 (grp A 4))).set 5 (.int .u16 (grp A 5))).set 6 (.int .u16 (grp A 6))).set 7 (.int .u16 (grp A 7))
   rw [set8] at Q
   have s0 := (Q.cell 0).trans (show _ = some (Value.int .u16 (grp A 0)) from rfl)
   have s1 := (Q.cell 1).trans (show _ = some (Value.int .u16 (grp A 1)) from rfl)
   have s2 := (Q.cell 2).trans (show _ = some (Value.int .u16 (grp A 2)) from rfl)
   have s3 := (Q.cell 3).trans (show _ = some (Value.int .u16 (grp A 3)) from rfl)
   have s4 := (Q.cell 4).trans (show _ = some (Value.int .u16 (grp A 4)) from rfl)
   have s5 := (Q.cell 5).trans (show _ = some (Value.int .u16 (grp A 5)) from rfl)
   have s6 := (Q.cell 6).trans (show _ = some (Value.int .u16 (grp A 6)) from rfl)
   have s7 := (Q.cell 7).trans (show _ = some (Value.int .u16 (grp A 7)) from rfl)
   have hbf : Below w.heap.size w ((((((((((((((((wr).setCell ⟨w.heap.size + 1, 0, none⟩ (.int .u16 (grp A 0)))).setCell ⟨w.heap.size + 1, 1, none⟩ (.int .u16 (grp A 1)))).setCell ⟨w.heap.size + 1, 2, none⟩ (.int .u16 (grp A 2)))).setCell ⟨w.heap.size + 1, 3, none⟩ (.int .u16 (grp A 3)))).setCell ⟨w.heap.size + 1, 4, none⟩ (.int .u16 (grp A 4)))).setCell ⟨w.heap.size + 1, 5, none⟩ (.int .u16 (grp A 5)))).setCell ⟨w.heap.size + 1, 6, none⟩ (.int .u16 (grp A 6)))).setCell ⟨w.heap.size + 1, 7, none⟩ (.int .u16 (grp A 7))) := ((((((((HB.out.setCell (by dsimp only; omega) _).setCell (by dsimp only; omega) _).setCell (by dsimp only; omega) _).setCell (by dsimp only; omega) _).setCell (by dsimp only; omega) _).setCell (by dsimp only; omega) _).setCell (by dsimp only; omega) _).setCell (by dsimp only; omega) _)
   have HBF := Lib.hid hbf
   clear hbf
   clear Q HR0 HB
   generalize ((((((((((((((((wr).setCell ⟨w.heap.size + 1, 0, none⟩ (.int .u16 (grp A 0)))).setCell ⟨w.heap.size + 1, 1, none⟩ (.int .u16 (grp A 1)))).setCell ⟨w.heap.size + 1, 2, none⟩ (.int .u16 (grp A 2)))).setCell ⟨w.heap.size + 1, 3, none⟩ (.int .u16 (grp A 3)))).setCell ⟨w.heap.size + 1, 4, none⟩ (.int .u16 (grp A 4)))).setCell ⟨w.heap.size + 1, 5, none⟩ (.int .u16 (grp A 5)))).setCell ⟨w.heap.size + 1, 6, none⟩ (.int .u16 (grp A 6)))).setCell ⟨w.heap.size + 1, 7, none⟩ (.int .u16 (grp A 7))) = wF at *
   exact bodyPost_ret (v := arr8 (grp A)) (by simp only [results, Tryz.results78]; simp [go_sem, s0, s1, s2, s3, s4, s5, s6, s7, arr8]) rfl ⟨rfl, HBF.out⟩
theorem idx8_0 (b0 b1 b2 b3 b4 b5 b6 b7 : Value) (w : World) : (Instr.index 107 (.agg #[b0, b1, b2, b3, b4, b5, b6, b7]) (.int .i64 0)).run Tryz.prog w = .ok b0 w := by kernel_rfl
theorem idx8_1 (b0 b1 b2 b3 b4 b5 b6 b7 : Value) (w : World) : (Instr.index 107 (.agg #[b0, b1, b2, b3, b4, b5, b6, b7]) (.int .i64 1)).run Tryz.prog w = .ok b1 w := by kernel_rfl
theorem idx8_2 (b0 b1 b2 b3 b4 b5 b6 b7 : Value) (w : World) : (Instr.index 107 (.agg #[b0, b1, b2, b3, b4, b5, b6, b7]) (.int .i64 2)).run Tryz.prog w = .ok b2 w := by kernel_rfl
theorem idx8_3 (b0 b1 b2 b3 b4 b5 b6 b7 : Value) (w : World) : (Instr.index 107 (.agg #[b0, b1, b2, b3, b4, b5, b6, b7]) (.int .i64 3)).run Tryz.prog w = .ok b3 w := by kernel_rfl
theorem idx8_4 (b0 b1 b2 b3 b4 b5 b6 b7 : Value) (w : World) : (Instr.index 107 (.agg #[b0, b1, b2, b3, b4, b5, b6, b7]) (.int .i64 4)).run Tryz.prog w = .ok b4 w := by kernel_rfl
theorem idx8_5 (b0 b1 b2 b3 b4 b5 b6 b7 : Value) (w : World) : (Instr.index 107 (.agg #[b0, b1, b2, b3, b4, b5, b6, b7]) (.int .i64 5)).run Tryz.prog w = .ok b5 w := by kernel_rfl
theorem idx8_6 (b0 b1 b2 b3 b4 b5 b6 b7 : Value) (w : World) : (Instr.index 107 (.agg #[b0, b1, b2, b3, b4, b5, b6, b7]) (.int .i64 6)).run Tryz.prog w = .ok b6 w := by kernel_rfl
theorem idx8_7 (b0 b1 b2 b3 b4 b5 b6 b7 : Value) (w : World) : (Instr.index 107 (.agg #[b0, b1, b2, b3, b4, b5, b6, b7]) (.int .i64 7)).run Tryz.prog w = .ok b7 w := by kernel_rfl
def scan (f : Nat → Int) : Nat → Nat × Nat × Nat
 | 0 => (0, 0, 0)
 | j + 1 => let s := scan f j
  if f j = 0 then (if s.2.1 < s.2.2 + 1 then (j + 1 - (s.2.2 + 1), s.2.2 + 1, s.2.2 + 1) else (s.1, s.2.1, s.2.2 + 1)) else (s.1, s.2.1, 0)
theorem scan_le (f : Nat → Int) : ∀ j, (scan f j).1 ≤ j ∧ (scan f j).2.1 ≤ j ∧ (scan f j).2.2 ≤ j
 | 0 => ⟨Nat.le_refl _, Nat.le_refl _, Nat.le_refl _⟩
 | j + 1 => by
  have h := scan_le f j
  simp only [scan]
  split
  ·split
   ·dsimp only; omega
   ·dsimp only; omega
  ·dsimp only; omega
def runS (f : Nat → Int) : Nat × Nat := if (scan f 8).2.1 < 2 then (0, 0) else ((scan f 8).1, (scan f 8).2.1)
theorem run_t (f : Nat → Int) (hf : ∀ k, 0 ≤ f k ∧ f k ≤ 65535) (w : World) : Calls Tryz.prog 79 #[arr8 f] w fun e w' => e = .returned (.tuple #[.int .i64 (runS f).1, .int .i64 (runS f).2]) ∧ Below w.heap.size w w' := by
 unfold arr8
 go_enter Tryz.func79, Tryz.ntmps79
 go_wp2_with fail
 have hb0 : Below w.heap.size w (w.alloc (.cells #[.int .u16 (f 0), .int .u16 (f 1), .int .u16 (f 2), .int .u16 (f 3), .int .u16 (f 4), .int .u16 (f 5), .int .u16 (f 6), .int .u16 (f 7)] 107)) := (Below.refl _ _).alloc (Nat.le_refl _) _
 generalize w.alloc (.cells #[.int .u16 (f 0), .int .u16 (f 1), .int .u16 (f 2), .int .u16 (f 3), .int .u16 (f 4), .int .u16 (f 5), .int .u16 (f 6), .int .u16 (f 7)] 107) = w0 at *
 go_loopw [4, 5, 6, 10] (fun a m l i wr => ∃ (j : Nat), j ≤ 8 ∧ i = .int .i64 j ∧ a = .int .i64 (scan f j).1 ∧ m = .int .i64 (scan f j).2.1 ∧ l = .int .i64 (scan f j).2.2 ∧ wr = w0) (fun _ _ _ i _ => 8 - (intOf i).toNat)
 case atStart => exact ⟨0, by omega, rfl, rfl, rfl, rfl, rfl⟩
 case round =>
  obtain ⟨j, hj, rfl, rfl, rfl, rfl, rfl⟩ := hrel
  have hle := scan_le f j
  rcases j with _ | _ | _ | _ | _ | _ | _ | _ | _ | j
  ·have hi := idx8_0 (.int .u16 (f 0)) (.int .u16 (f 1)) (.int .u16 (f 2)) (.int .u16 (f 3)) (.int .u16 (f 4)) (.int .u16 (f 5)) (.int .u16 (f 6)) (.int .u16 (f 7)) wr
   have hs : scan f (0 + 1) = (if f 0 = 0 then (if (scan f (0)).2.1 < (scan f (0)).2.2 + 1 then (0 + 1 - ((scan f (0)).2.2 + 1), (scan f (0)).2.2 + 1, (scan f (0)).2.2 + 1) else ((scan f (0)).1, (scan f (0)).2.1, (scan f (0)).2.2 + 1)) else ((scan f (0)).1, (scan f (0)).2.1, 0)) := rfl
   have HS := Lib.hid hs
   clear hs
   have hg := hf 0
   have hle' : (scan f (0)).1 ≤ 0 ∧ (scan f (0)).2.1 ≤ 0 ∧ (scan f (0)).2.2 ≤ 0 := hle
   clear hle
   generalize scan f (0) = s at *
   obtain ⟨a, m, l⟩ := s
   dsimp only at hle' ⊢
   by_cases h0 : f 0 = 0
   ·have e0 : ((f 0) != 0) = false := by simpa using h0
    by_cases h1 : m < l + 1
    ·have h1' : (m : Int) < (l : Int) + 1 := by omega
     rw [h0] at hi
     go_wp2
     refine ⟨⟨1, by omega, by go_num, ?_, ?_, ?_, trivial⟩, by simp [intOf]⟩ <;> (rw [HS.out, if_pos h0, if_pos h1] <;> first | rfl | (refine congrArg (Value.int .i64) ?_; dsimp only; omega))
    ·have h1' : ¬ (m : Int) < (l : Int) + 1 := by omega
     rw [h0] at hi
     go_wp2
     refine ⟨⟨1, by omega, by go_num, ?_, ?_, ?_, trivial⟩, by simp [intOf]⟩ <;> (rw [HS.out, if_pos h0, if_neg h1] <;> first | rfl | (refine congrArg (Value.int .i64) ?_; dsimp only; omega))
   ·have e0 : ((f 0) != 0) = true := by simpa using h0
    go_wp2
    refine ⟨⟨1, by omega, by go_num, ?_, ?_, ?_, trivial⟩, by simp [intOf]⟩ <;> (rw [HS.out, if_neg h0] <;> first | rfl | (refine congrArg (Value.int .i64) ?_; dsimp only; omega))
  ·have hi := idx8_1 (.int .u16 (f 0)) (.int .u16 (f 1)) (.int .u16 (f 2)) (.int .u16 (f 3)) (.int .u16 (f 4)) (.int .u16 (f 5)) (.int .u16 (f 6)) (.int .u16 (f 7)) wr
   have hs : scan f (1 + 1) = (if f 1 = 0 then (if (scan f (0 + 1)).2.1 < (scan f (0 + 1)).2.2 + 1 then (1 + 1 - ((scan f (0 + 1)).2.2 + 1), (scan f (0 + 1)).2.2 + 1, (scan f (0 + 1)).2.2 + 1) else ((scan f (0 + 1)).1, (scan f (0 + 1)).2.1, (scan f (0 + 1)).2.2 + 1)) else ((scan f (0 + 1)).1, (scan f (0 + 1)).2.1, 0)) := rfl
   have HS := Lib.hid hs
   clear hs
   have hg := hf 1
   have hle' : (scan f (0 + 1)).1 ≤ 1 ∧ (scan f (0 + 1)).2.1 ≤ 1 ∧ (scan f (0 + 1)).2.2 ≤ 1 := hle
   clear hle
   generalize scan f (0 + 1) = s at *
   obtain ⟨a, m, l⟩ := s
   dsimp only at hle' ⊢
   by_cases h0 : f 1 = 0
   ·have e0 : ((f 1) != 0) = false := by simpa using h0
    by_cases h1 : m < l + 1
    ·have h1' : (m : Int) < (l : Int) + 1 := by omega
     rw [h0] at hi
     go_wp2
     refine ⟨⟨2, by omega, by go_num, ?_, ?_, ?_, trivial⟩, by simp [intOf]⟩ <;> (rw [HS.out, if_pos h0, if_pos h1] <;> first | rfl | (refine congrArg (Value.int .i64) ?_; dsimp only; omega))
    ·have h1' : ¬ (m : Int) < (l : Int) + 1 := by omega
     rw [h0] at hi
     go_wp2
     refine ⟨⟨2, by omega, by go_num, ?_, ?_, ?_, trivial⟩, by simp [intOf]⟩ <;> (rw [HS.out, if_pos h0, if_neg h1] <;> first | rfl | (refine congrArg (Value.int .i64) ?_; dsimp only; omega))
   ·have e0 : ((f 1) != 0) = true := by simpa using h0
    go_wp2
    refine ⟨⟨2, by omega, by go_num, ?_, ?_, ?_, trivial⟩, by simp [intOf]⟩ <;> (rw [HS.out, if_neg h0] <;> first | rfl | (refine congrArg (Value.int .i64) ?_; dsimp only; omega))
  ·have hi := idx8_2 (.int .u16 (f 0)) (.int .u16 (f 1)) (.int .u16 (f 2)) (.int .u16 (f 3)) (.int .u16 (f 4)) (.int .u16 (f 5)) (.int .u16 (f 6)) (.int .u16 (f 7)) wr
   have hs : scan f (2 + 1) = (if f 2 = 0 then (if (scan f (0 + 1 + 1)).2.1 < (scan f (0 + 1 + 1)).2.2 + 1 then (2 + 1 - ((scan f (0 + 1 + 1)).2.2 + 1), (scan f (0 + 1 + 1)).2.2 + 1, (scan f (0 + 1 + 1)).2.2 + 1) else ((scan f (0 + 1 + 1)).1, (scan f (0 + 1 + 1)).2.1, (scan f (0 + 1 + 1)).2.2 + 1)) else ((scan f (0 + 1 + 1)).1, (scan f (0 + 1 + 1)).2.1, 0)) := rfl
   have HS := Lib.hid hs
   clear hs
   have hg := hf 2
   have hle' : (scan f (0 + 1 + 1)).1 ≤ 2 ∧ (scan f (0 + 1 + 1)).2.1 ≤ 2 ∧ (scan f (0 + 1 + 1)).2.2 ≤ 2 := hle
   clear hle
   generalize scan f (0 + 1 + 1) = s at *
   obtain ⟨a, m, l⟩ := s
   dsimp only at hle' ⊢
   by_cases h0 : f 2 = 0
   ·have e0 : ((f 2) != 0) = false := by simpa using h0
    by_cases h1 : m < l + 1
    ·have h1' : (m : Int) < (l : Int) + 1 := by omega
     rw [h0] at hi
     go_wp2
     refine ⟨⟨3, by omega, by go_num, ?_, ?_, ?_, trivial⟩, by simp [intOf]⟩ <;> (rw [HS.out, if_pos h0, if_pos h1] <;> first | rfl | (refine congrArg (Value.int .i64) ?_; dsimp only; omega))
    ·have h1' : ¬ (m : Int) < (l : Int) + 1 := by omega
     rw [h0] at hi
     go_wp2
     refine ⟨⟨3, by omega, by go_num, ?_, ?_, ?_, trivial⟩, by simp [intOf]⟩ <;> (rw [HS.out, if_pos h0, if_neg h1] <;> first | rfl | (refine congrArg (Value.int .i64) ?_; dsimp only; omega))
   ·have e0 : ((f 2) != 0) = true := by simpa using h0
    go_wp2
    refine ⟨⟨3, by omega, by go_num, ?_, ?_, ?_, trivial⟩, by simp [intOf]⟩ <;> (rw [HS.out, if_neg h0] <;> first | rfl | (refine congrArg (Value.int .i64) ?_; dsimp only; omega))
  ·have hi := idx8_3 (.int .u16 (f 0)) (.int .u16 (f 1)) (.int .u16 (f 2)) (.int .u16 (f 3)) (.int .u16 (f 4)) (.int .u16 (f 5)) (.int .u16 (f 6)) (.int .u16 (f 7)) wr
   have hs : scan f (3 + 1) = (if f 3 = 0 then (if (scan f (0 + 1 + 1 + 1)).2.1 < (scan f (0 + 1 + 1 + 1)).2.2 + 1 then (3 + 1 - ((scan f (0 + 1 + 1 + 1)).2.2 + 1), (scan f (0 + 1 + 1 + 1)).2.2 + 1, (scan f (0 + 1 + 1 + 1)).2.2 + 1) else ((scan f (0 + 1 + 1 + 1)).1, (scan f (0 + 1 + 1 + 1)).2.1, (scan f (0 + 1 + 1 + 1)).2.2 + 1)) else ((scan f (0 + 1 + 1 + 1)).1, (scan f (0 + 1 + 1 + 1)).2.1, 0)) := rfl
   have HS := Lib.hid hs
   clear hs
   have hg := hf 3
   have hle' : (scan f (0 + 1 + 1 + 1)).1 ≤ 3 ∧ (scan f (0 + 1 + 1 + 1)).2.1 ≤ 3 ∧ (scan f (0 + 1 + 1 + 1)).2.2 ≤ 3 := hle
   clear hle
   generalize scan f (0 + 1 + 1 + 1) = s at *
   obtain ⟨a, m, l⟩ := s
   dsimp only at hle' ⊢
   by_cases h0 : f 3 = 0
   ·have e0 : ((f 3) != 0) = false := by simpa using h0
    by_cases h1 : m < l + 1
    ·have h1' : (m : Int) < (l : Int) + 1 := by omega
     rw [h0] at hi
     go_wp2
     refine ⟨⟨4, by omega, by go_num, ?_, ?_, ?_, trivial⟩, by simp [intOf]⟩ <;> (rw [HS.out, if_pos h0, if_pos h1] <;> first | rfl | (refine congrArg (Value.int .i64) ?_; dsimp only; omega))
    ·have h1' : ¬ (m : Int) < (l : Int) + 1 := by omega
     rw [h0] at hi
     go_wp2
     refine ⟨⟨4, by omega, by go_num, ?_, ?_, ?_, trivial⟩, by simp [intOf]⟩ <;> (rw [HS.out, if_pos h0, if_neg h1] <;> first | rfl | (refine congrArg (Value.int .i64) ?_; dsimp only; omega))
   ·have e0 : ((f 3) != 0) = true := by simpa using h0
    go_wp2
    refine ⟨⟨4, by omega, by go_num, ?_, ?_, ?_, trivial⟩, by simp [intOf]⟩ <;> (rw [HS.out, if_neg h0] <;> first | rfl | (refine congrArg (Value.int .i64) ?_; dsimp only; omega))
  ·have hi := idx8_4 (.int .u16 (f 0)) (.int .u16 (f 1)) (.int .u16 (f 2)) (.int .u16 (f 3)) (.int .u16 (f 4)) (.int .u16 (f 5)) (.int .u16 (f 6)) (.int .u16 (f 7)) wr
   have hs : scan f (4 + 1) = (if f 4 = 0 then (if (scan f (0 + 1 + 1 + 1 + 1)).2.1 < (scan f (0 + 1 + 1 + 1 + 1)).2.2 + 1 then (4 + 1 - ((scan f (0 + 1 + 1 + 1 + 1)).2.2 + 1), (scan f (0 + 1 + 1 + 1 + 1)).2.2 + 1, (scan f (0 + 1 + 1 + 1 + 1)).2.2 + 1) else ((scan f (0 + 1 + 1 + 1 + 1)).1, (scan f (0 + 1 + 1 + 1 + 1)).2.1, (scan f (0 + 1 + 1 + 1 + 1)).2.2 + 1)) else ((scan f (0 + 1 + 1 + 1 + 1)).1, (scan f (0 + 1 + 1 + 1 + 1)).2.1, 0)) := rfl
   have HS := Lib.hid hs
   clear hs
   have hg := hf 4
   have hle' : (scan f (0 + 1 + 1 + 1 + 1)).1 ≤ 4 ∧ (scan f (0 + 1 + 1 + 1 + 1)).2.1 ≤ 4 ∧ (scan f (0 + 1 + 1 + 1 + 1)).2.2 ≤ 4 := hle
   clear hle
   generalize scan f (0 + 1 + 1 + 1 + 1) = s at *
   obtain ⟨a, m, l⟩ := s
   dsimp only at hle' ⊢
   by_cases h0 : f 4 = 0
   ·have e0 : ((f 4) != 0) = false := by simpa using h0
    by_cases h1 : m < l + 1
    ·have h1' : (m : Int) < (l : Int) + 1 := by omega
     rw [h0] at hi
     go_wp2
     refine ⟨⟨5, by omega, by go_num, ?_, ?_, ?_, trivial⟩, by simp [intOf]⟩ <;> (rw [HS.out, if_pos h0, if_pos h1] <;> first | rfl | (refine congrArg (Value.int .i64) ?_; dsimp only; omega))
    ·have h1' : ¬ (m : Int) < (l : Int) + 1 := by omega
     rw [h0] at hi
     go_wp2
     refine ⟨⟨5, by omega, by go_num, ?_, ?_, ?_, trivial⟩, by simp [intOf]⟩ <;> (rw [HS.out, if_pos h0, if_neg h1] <;> first | rfl | (refine congrArg (Value.int .i64) ?_; dsimp only; omega))
   ·have e0 : ((f 4) != 0) = true := by simpa using h0
    go_wp2
    refine ⟨⟨5, by omega, by go_num, ?_, ?_, ?_, trivial⟩, by simp [intOf]⟩ <;> (rw [HS.out, if_neg h0] <;> first | rfl | (refine congrArg (Value.int .i64) ?_; dsimp only; omega))
  ·have hi := idx8_5 (.int .u16 (f 0)) (.int .u16 (f 1)) (.int .u16 (f 2)) (.int .u16 (f 3)) (.int .u16 (f 4)) (.int .u16 (f 5)) (.int .u16 (f 6)) (.int .u16 (f 7)) wr
   have hs : scan f (5 + 1) = (if f 5 = 0 then (if (scan f (0 + 1 + 1 + 1 + 1 + 1)).2.1 < (scan f (0 + 1 + 1 + 1 + 1 + 1)).2.2 + 1 then (5 + 1 - ((scan f (0 + 1 + 1 + 1 + 1 + 1)).2.2 + 1), (scan f (0 + 1 + 1 + 1 + 1 + 1)).2.2 + 1, (scan f (0 + 1 + 1 + 1 + 1 + 1)).2.2 + 1) else ((scan f (0 + 1 + 1 + 1 + 1 + 1)).1, (scan f (0 + 1 + 1 + 1 + 1 + 1)).2.1, (scan f (0 + 1 + 1 + 1 + 1 + 1)).2.2 + 1)) else ((scan f (0 + 1 + 1 + 1 + 1 + 1)).1, (scan f (0 + 1 + 1 + 1 + 1 + 1)).2.1, 0)) := rfl
   have HS := Lib.hid hs
   clear hs
   have hg := hf 5
   have hle' : (scan f (0 + 1 + 1 + 1 + 1 + 1)).1 ≤ 5 ∧ (scan f (0 + 1 + 1 + 1 + 1 + 1)).2.1 ≤ 5 ∧ (scan f (0 + 1 + 1 + 1 + 1 + 1)).2.2 ≤ 5 := hle
   clear hle
   generalize scan f (0 + 1 + 1 + 1 + 1 + 1) = s at *
   obtain ⟨a, m, l⟩ := s
   dsimp only at hle' ⊢
   by_cases h0 : f 5 = 0
   ·have e0 : ((f 5) != 0) = false := by simpa using h0
    by_cases h1 : m < l + 1
    ·have h1' : (m : Int) < (l : Int) + 1 := by omega
     rw [h0] at hi
     go_wp2
     refine ⟨⟨6, by omega, by go_num, ?_, ?_, ?_, trivial⟩, by simp [intOf]⟩ <;> (rw [HS.out, if_pos h0, if_pos h1] <;> first | rfl | (refine congrArg (Value.int .i64) ?_; dsimp only; omega))
    ·have h1' : ¬ (m : Int) < (l : Int) + 1 := by omega
     rw [h0] at hi
     go_wp2
     refine ⟨⟨6, by omega, by go_num, ?_, ?_, ?_, trivial⟩, by simp [intOf]⟩ <;> (rw [HS.out, if_pos h0, if_neg h1] <;> first | rfl | (refine congrArg (Value.int .i64) ?_; dsimp only; omega))
   ·have e0 : ((f 5) != 0) = true := by simpa using h0
    go_wp2
    refine ⟨⟨6, by omega, by go_num, ?_, ?_, ?_, trivial⟩, by simp [intOf]⟩ <;> (rw [HS.out, if_neg h0] <;> first | rfl | (refine congrArg (Value.int .i64) ?_; dsimp only; omega))
  ·have hi := idx8_6 (.int .u16 (f 0)) (.int .u16 (f 1)) (.int .u16 (f 2)) (.int .u16 (f 3)) (.int .u16 (f 4)) (.int .u16 (f 5)) (.int .u16 (f 6)) (.int .u16 (f 7)) wr
   have hs : scan f (6 + 1) = (if f 6 = 0 then (if (scan f (0 + 1 + 1 + 1 + 1 + 1 + 1)).2.1 < (scan f (0 + 1 + 1 + 1 + 1 + 1 + 1)).2.2 + 1 then (6 + 1 - ((scan f (0 + 1 + 1 + 1 + 1 + 1 + 1)).2.2 + 1), (scan f (0 + 1 + 1 + 1 + 1 + 1 + 1)).2.2 + 1, (scan f (0 + 1 + 1 + 1 + 1 + 1 + 1)).2.2 + 1) else ((scan f (0 + 1 + 1 + 1 + 1 + 1 + 1)).1, (scan f (0 + 1 + 1 + 1 + 1 + 1 + 1)).2.1, (scan f (0 + 1 + 1 + 1 + 1 + 1 + 1)).2.2 + 1)) else ((scan f (0 + 1 + 1 + 1 + 1 + 1 + 1)).1, (scan f (0 + 1 + 1 + 1 + 1 + 1 + 1)).2.1, 0)) := rfl
   have HS := Lib.hid hs
   clear hs
   have hg := hf 6
   have hle' : (scan f (0 + 1 + 1 + 1 + 1 + 1 + 1)).1 ≤ 6 ∧ (scan f (0 + 1 + 1 + 1 + 1 + 1 + 1)).2.1 ≤ 6 ∧ (scan f (0 + 1 + 1 + 1 + 1 + 1 + 1)).2.2 ≤ 6 := hle
   clear hle
   generalize scan f (0 + 1 + 1 + 1 + 1 + 1 + 1) = s at *
   obtain ⟨a, m, l⟩ := s
   dsimp only at hle' ⊢
   by_cases h0 : f 6 = 0
   ·have e0 : ((f 6) != 0) = false := by simpa using h0
    by_cases h1 : m < l + 1
    ·have h1' : (m : Int) < (l : Int) + 1 := by omega
     rw [h0] at hi
     go_wp2
     refine ⟨⟨7, by omega, by go_num, ?_, ?_, ?_, trivial⟩, by simp [intOf]⟩ <;> (rw [HS.out, if_pos h0, if_pos h1] <;> first | rfl | (refine congrArg (Value.int .i64) ?_; dsimp only; omega))
    ·have h1' : ¬ (m : Int) < (l : Int) + 1 := by omega
     rw [h0] at hi
     go_wp2
     refine ⟨⟨7, by omega, by go_num, ?_, ?_, ?_, trivial⟩, by simp [intOf]⟩ <;> (rw [HS.out, if_pos h0, if_neg h1] <;> first | rfl | (refine congrArg (Value.int .i64) ?_; dsimp only; omega))
   ·have e0 : ((f 6) != 0) = true := by simpa using h0
    go_wp2
    refine ⟨⟨7, by omega, by go_num, ?_, ?_, ?_, trivial⟩, by simp [intOf]⟩ <;> (rw [HS.out, if_neg h0] <;> first | rfl | (refine congrArg (Value.int .i64) ?_; dsimp only; omega))
  ·have hi := idx8_7 (.int .u16 (f 0)) (.int .u16 (f 1)) (.int .u16 (f 2)) (.int .u16 (f 3)) (.int .u16 (f 4)) (.int .u16 (f 5)) (.int .u16 (f 6)) (.int .u16 (f 7)) wr
   have hs : scan f (7 + 1) = (if f 7 = 0 then (if (scan f (0 + 1 + 1 + 1 + 1 + 1 + 1 + 1)).2.1 < (scan f (0 + 1 + 1 + 1 + 1 + 1 + 1 + 1)).2.2 + 1 then (7 + 1 - ((scan f (0 + 1 + 1 + 1 + 1 + 1 + 1 + 1)).2.2 + 1), (scan f (0 + 1 + 1 + 1 + 1 + 1 + 1 + 1)).2.2 + 1, (scan f (0 + 1 + 1 + 1 + 1 + 1 + 1 + 1)).2.2 + 1) else ((scan f (0 + 1 + 1 + 1 + 1 + 1 + 1 + 1)).1, (scan f (0 + 1 + 1 + 1 + 1 + 1 + 1 + 1)).2.1, (scan f (0 + 1 + 1 + 1 + 1 + 1 + 1 + 1)).2.2 + 1)) else ((scan f (0 + 1 + 1 + 1 + 1 + 1 + 1 + 1)).1, (scan f (0 + 1 + 1 + 1 + 1 + 1 + 1 + 1)).2.1, 0)) := rfl
   have HS := Lib.hid hs
   clear hs
   have hg := hf 7
   have hle' : (scan f (0 + 1 + 1 + 1 + 1 + 1 + 1 + 1)).1 ≤ 7 ∧ (scan f (0 + 1 + 1 + 1 + 1 + 1 + 1 + 1)).2.1 ≤ 7 ∧ (scan f (0 + 1 + 1 + 1 + 1 + 1 + 1 + 1)).2.2 ≤ 7 := hle
   clear hle
   generalize scan f (0 + 1 + 1 + 1 + 1 + 1 + 1 + 1) = s at *
   obtain ⟨a, m, l⟩ := s
   dsimp only at hle' ⊢
   by_cases h0 : f 7 = 0
   ·have e0 : ((f 7) != 0) = false := by simpa using h0
    by_cases h1 : m < l + 1
    ·have h1' : (m : Int) < (l : Int) + 1 := by omega
     rw [h0] at hi
     go_wp2
     refine ⟨⟨8, by omega, by go_num, ?_, ?_, ?_, trivial⟩, by simp [intOf]⟩ <;> (rw [HS.out, if_pos h0, if_pos h1] <;> first | rfl | (refine congrArg (Value.int .i64) ?_; dsimp only; omega))
    ·have h1' : ¬ (m : Int) < (l : Int) + 1 := by omega
     rw [h0] at hi
     go_wp2
     refine ⟨⟨8, by omega, by go_num, ?_, ?_, ?_, trivial⟩, by simp [intOf]⟩ <;> (rw [HS.out, if_pos h0, if_neg h1] <;> first | rfl | (refine congrArg (Value.int .i64) ?_; dsimp only; omega))
   ·have e0 : ((f 7) != 0) = true := by simpa using h0
    go_wp2
    refine ⟨⟨8, by omega, by go_num, ?_, ?_, ?_, trivial⟩, by simp [intOf]⟩ <;> (rw [HS.out, if_neg h0] <;> first | rfl | (refine congrArg (Value.int .i64) ?_; dsimp only; omega))
  ·have hr : runS f = (if (scan f 8).2.1 < 2 then (0, 0) else ((scan f 8).1, (scan f 8).2.1)) := rfl
   have HR := Lib.hid hr
   clear hr
   by_cases h2 : (scan f 8).2.1 < 2
   ·have h2' : (((scan f 8).2.1 : Nat) : Int) < 2 := by omega
    go_wp2
    exact bodyPost_ret (v := .tuple #[.int .i64 0, .int .i64 0]) (by simp [results, Tryz.results79, go_sem]) rfl ⟨by rw [HR.out, if_pos h2]; rfl, hb0⟩
   ·have h2' : ¬ (((scan f 8).2.1 : Nat) : Int) < 2 := by omega
    go_wp2
    exact bodyPost_ret (v := .tuple #[.int .i64 (scan f 8).1, .int .i64 (scan f 8).2.1]) (by simp [results, Tryz.results79, go_sem]) rfl ⟨by rw [HR.out, if_neg h2], hb0⟩
  ·omega
def ofN (f : Nat → Int) : Nat → Int
 | 0 => 0
 | j + 1 => 65536 * ofN f j + f j
theorem ofN_range (f : Nat → Int) (hf : ∀ k, 0 ≤ f k ∧ f k ≤ 65535) : ∀ j, 0 ≤ ofN f j ∧ ofN f j < 65536 ^ j
 | 0 => ⟨by simp [ofN], by simp [ofN]⟩
 | j + 1 => by
  have h := ofN_range f hf j
  have h2 := hf j
  rw [ofN, Int.pow_succ]
  generalize (65536 : Int) ^ j = q at *
  omega
theorem or16 (a b : Int) (ha : 0 ≤ a) (b0 : 0 ≤ b) (b1 : b ≤ 65535) : orI (65536 * a) b = 65536 * a + b := by
 unfold orI
 have h := Nat.two_pow_add_eq_or_of_lt (b := b.toNat) (i := 16) (by omega) a.toNat
 rw [show (65536 * a).toNat = 2 ^ 16 * a.toNat by omega, ← h]
 omega
theorem left16 (n : Int) (w : World) : Calls Tryz.prog 99 #[.agg #[.int .u64 (hi n), .int .u64 (lo n)], .int .i64 16] w fun e w' => e = .returned (.agg #[.int .u64 (hi (65536 * n)), .int .u64 (lo (65536 * n))]) ∧ Below w.heap.size w w' := by
 have h := left_h n 16 w
 rw [show n * 2 ^ (16 : Int).toNat = 65536 * n by show n * 65536 = 65536 * n; omega] at h
 exact h
theorem of16 (b : Int) (b0 : 0 ≤ b) (b1 : b ≤ 65535) (w : World) : Calls Tryz.prog 63 #[.int .u64 b] w fun e w' => e = .returned (.agg #[.int .u64 (hi b), .int .u64 (lo b)]) ∧ Below w.heap.size w w' := by
 rw [show hi b = 0 by unfold hi; omega, show lo b = b by unfold lo; omega]; exact of_any b w
theorem orN (a b : Int) (a0 : 0 ≤ a) (a1 : a < 5192296858534827628530496329220096) (b0 : 0 ≤ b) (b1 : b ≤ 65535) (w : World) : Calls Tryz.prog 134 #[.agg #[.int .u64 (hi (65536 * a)), .int .u64 (lo (65536 * a))], .agg #[.int .u64 (hi b), .int .u64 (lo b)]] w fun e w' => e = .returned (.agg #[.int .u64 (hi (65536 * a + b)), .int .u64 (lo (65536 * a + b))]) ∧ Below w.heap.size w w' := by
 have h := or_h (65536 * a) b w
 rw [show (65536 * a) % MM = 65536 * a by unfold MM; omega, show b % MM = b by unfold MM; omega, or16 a b a0 b0 b1] at h
 exact h
theorem pow_le7 (j : Nat) (h : j ≤ 7) : (65536 : Int) ^ j ≤ 5192296858534827628530496329220096 := by
 have : ∀ j : Fin 8, (65536 : Int) ^ (j : Nat) ≤ 5192296858534827628530496329220096 := by decide
 exact this ⟨j, by omega⟩
theorem of8_t (f : Nat → Int) (hf : ∀ k, 0 ≤ f k ∧ f k ≤ 65535) (w : World) : Calls Tryz.prog 101 #[arr8 f] w fun e w' => e = .returned (.agg #[.int .u64 (hi (ofN f 8)), .int .u64 (lo (ofN f 8))]) ∧ Below w.heap.size w w' := by
 unfold arr8
 go_enter Tryz.func101, Tryz.ntmps101
 go_wp2_with fail
 have hb0 : Below w.heap.size w ((w.alloc (.cells #[.int .u16 (f 0), .int .u16 (f 1), .int .u16 (f 2), .int .u16 (f 3), .int .u16 (f 4), .int .u16 (f 5), .int .u16 (f 6), .int .u16 (f 7)] 107)).alloc (.cells #[.int .u64 0, .int .u64 0] 73)) := (by repeat (first | exact Below.refl _ _ | assumption | (with_reducible refine Below.drew ?_) | ((with_reducible first | refine Below.setCell ?_ ?h _ | refine Below.alloc ?_ ?h _ | refine Below.trans ?_ (hb4.mono ?h) | refine Below.trans ?_ (hb3.mono ?h) | refine Below.trans ?_ (hb.mono ?h) | refine Below.trans ?_ (hb0.mono ?h)); case h => first | omega | (simp; done) | (simp; omega))))
 have R0 : Row ((w.alloc (.cells #[.int .u16 (f 0), .int .u16 (f 1), .int .u16 (f 2), .int .u16 (f 3), .int .u16 (f 4), .int .u16 (f 5), .int .u16 (f 6), .int .u16 (f 7)] 107)).alloc (.cells #[.int .u64 0, .int .u64 0] 73)) (w.heap.size + 1) #[.int .u64 0, .int .u64 0] 73 := by simpa using Row.new (w.alloc (.cells #[.int .u16 (f 0), .int .u16 (f 1), .int .u16 (f 2), .int .u16 (f 3), .int .u16 (f 4), .int .u16 (f 5), .int .u16 (f 6), .int .u16 (f 7)] 107)) #[.int .u64 0, .int .u64 0] 73
 have G0 : Row ((w.alloc (.cells #[.int .u16 (f 0), .int .u16 (f 1), .int .u16 (f 2), .int .u16 (f 3), .int .u16 (f 4), .int .u16 (f 5), .int .u16 (f 6), .int .u16 (f 7)] 107)).alloc (.cells #[.int .u64 0, .int .u64 0] 73)) w.heap.size #[.int .u16 (f 0), .int .u16 (f 1), .int .u16 (f 2), .int .u16 (f 3), .int .u16 (f 4), .int .u16 (f 5), .int .u16 (f 6), .int .u16 (f 7)] 107 := (Row.new w _ _).alloc _
 have hsz : w.heap.size + 2 ≤ ((w.alloc (.cells #[.int .u16 (f 0), .int .u16 (f 1), .int .u16 (f 2), .int .u16 (f 3), .int .u16 (f 4), .int .u16 (f 5), .int .u16 (f 6), .int .u16 (f 7)] 107)).alloc (.cells #[.int .u64 0, .int .u64 0] 73)).heap.size := by simp
 generalize (w.alloc (.cells #[.int .u16 (f 0), .int .u16 (f 1), .int .u16 (f 2), .int .u16 (f 3), .int .u16 (f 4), .int .u16 (f 5), .int .u16 (f 6), .int .u16 (f 7)] 107)).alloc (.cells #[.int .u64 0, .int .u64 0] 73) = w0 at *
 refine (of_any 0 w0).mono ?_
 rintro r w1 ⟨rfl, hb1⟩
 replace R0 := R0.later hb1
 replace G0 := G0.later hb1
 have hbz := below_step hb0 hb1
 have hs1 := Nat.le_trans hsz hb1.size
 clear hb0 hb1 hsz
 have g0 := (G0.cell 0).trans (show _ = some (Value.int .u16 (f 0)) from rfl)
 have g1 := (G0.cell 1).trans (show _ = some (Value.int .u16 (f 1)) from rfl)
 have g2 := (G0.cell 2).trans (show _ = some (Value.int .u16 (f 2)) from rfl)
 have g3 := (G0.cell 3).trans (show _ = some (Value.int .u16 (f 3)) from rfl)
 have g4 := (G0.cell 4).trans (show _ = some (Value.int .u16 (f 4)) from rfl)
 have g5 := (G0.cell 5).trans (show _ = some (Value.int .u16 (f 5)) from rfl)
 have g6 := (G0.cell 6).trans (show _ = some (Value.int .u16 (f 6)) from rfl)
 have g7 := (G0.cell 7).trans (show _ = some (Value.int .u16 (f 7)) from rfl)
 have hl1 : w.heap.size < w1.heap.size := by omega
 have hl2 : w.heap.size + 1 < w1.heap.size := by omega
 have hn1 : ¬ w1.heap.size = w.heap.size := by omega
 have hn2 : ¬ w.heap.size = w1.heap.size := by omega
 have HG := Lib.hid G0
 have HR := Lib.hid R0
 have HB := Lib.hid hbz
 clear G0 R0 hbz
 go_wp2_with fail
 have RA := Row.new w1 #[.int .u64 0, .int .u64 0] 73
 have hba : Below w1.heap.size w1 (w1.alloc (.cells #[.int .u64 0, .int .u64 0] 73)) := (Below.refl _ _).alloc (Nat.le_refl _) _
 have RZ := HR.out.later hba
 have hbz := below_step HB.out hba
 clear HG HR HB hba g0 g1 g2 g3 g4 g5 g6 g7
 generalize w1.alloc (.cells #[.int .u64 0, .int .u64 0] 73) = w2 at *
 generalize w1.heap.size = g at *
 go_loopw [8] (fun i wr => ∃ (j : Nat), j ≤ 8 ∧ i = .int .i64 j ∧ Row wr g #[.int .u64 (hi (ofN f j)), .int .u64 (lo (ofN f j))] 73 ∧ Row wr (w.heap.size + 1) #[.int .u64 0, .int .u64 0] 73 ∧ Below w.heap.size w wr) (fun i _ => 8 - (intOf i).toNat)
 case atStart => exact ⟨0, by omega, rfl, RA, RZ, hbz⟩
 case round =>
  clear RA RZ hbz
  obtain ⟨j, hj, rfl, R, R0, hb⟩ := hrel
  have hrg := ofN_range f hf j
  rcases j with _ | _ | _ | _ | _ | _ | _ | _ | _ | j
  ·have hidx := idx8_0 (.int .u16 (f 0)) (.int .u16 (f 1)) (.int .u16 (f 2)) (.int .u16 (f 3)) (.int .u16 (f 4)) (.int .u16 (f 5)) (.int .u16 (f 6)) (.int .u16 (f 7)) wr
   have hp7 := pow_le7 (0) (by omega)
   have hn : ofN f (0 + 1) = 65536 * ofN f (0) + f 0 := rfl
   have HN := Lib.hid hn
   clear hn
   obtain ⟨y0, y1⟩ := hf 0
   have n0 := hrg.1
   have n1 : ofN f (0) < 5192296858534827628530496329220096 := Int.lt_of_lt_of_le hrg.2 hp7
   clear hrg hp7
   generalize ofN f (0) = n at *
   have r0 := (R.cell 0).trans (show _ = some (Value.int .u64 (hi n)) from rfl)
   have r1 := (R.cell 1).trans (show _ = some (Value.int .u64 (lo n)) from rfl)
   have HR := Lib.hid R
   have HR0 := Lib.hid R0
   have HB := Lib.hid hb
   clear R R0 hb
   go_wp2_with fail
   refine (left16 n wr).mono ?_
   rintro r w3 ⟨rfl, hb3⟩
   go_wp2_with fail
   refine (of16 (f 0) y0 y1 w3).mono ?_
   rintro r w4 ⟨rfl, hb4⟩
   go_wp2_with fail
   refine (orN n (f 0) n0 n1 y0 y1 w4).mono ?_
   rintro r w5 ⟨rfl, hb5⟩
   have hbb := below_step (below_step hb3 hb4) hb5
   have R5 := HR.out.later hbb
   have r0 := (R5.cell 0).trans (show _ = some (Value.int .u64 (hi n)) from rfl)
   have r1 := (R5.cell 1).trans (show _ = some (Value.int .u64 (lo n)) from rfl)
   have f0 := R5.frozen 0
   have f1 := R5.frozen 1
   have HR5 := Lib.hid R5
   have HZ5 := Lib.hid (HR0.out.later hbb)
   have HB5 := Lib.hid (below_step HB.out hbb)
   clear R5 HR HR0 HB hbb hb3 hb4 hb5
   go_wp2
   refine ⟨⟨1, by omega, by go_num, ?_, (HZ5.out.set_far _ _ (by dsimp only; omega)).set_far _ _ (by dsimp only; omega), (HB5.out.setCell (by dsimp only; omega) _).setCell (by dsimp only; omega) _⟩, by simp [intOf]⟩
   rw [show ofN f 1 = ofN f (0 + 1) from rfl, HN.out]
   simpa using (HR5.out.set 0 (.int .u64 (hi (65536 * n + f 0)))).set 1 (.int .u64 (lo (65536 * n + f 0)))
  ·have hidx := idx8_1 (.int .u16 (f 0)) (.int .u16 (f 1)) (.int .u16 (f 2)) (.int .u16 (f 3)) (.int .u16 (f 4)) (.int .u16 (f 5)) (.int .u16 (f 6)) (.int .u16 (f 7)) wr
   have hp7 := pow_le7 (0 + 1) (by omega)
   have hn : ofN f (0 + 1 + 1) = 65536 * ofN f (0 + 1) + f 1 := rfl
   have HN := Lib.hid hn
   clear hn
   obtain ⟨y0, y1⟩ := hf 1
   have n0 := hrg.1
   have n1 : ofN f (0 + 1) < 5192296858534827628530496329220096 := Int.lt_of_lt_of_le hrg.2 hp7
   clear hrg hp7
   generalize ofN f (0 + 1) = n at *
   have r0 := (R.cell 0).trans (show _ = some (Value.int .u64 (hi n)) from rfl)
   have r1 := (R.cell 1).trans (show _ = some (Value.int .u64 (lo n)) from rfl)
   have HR := Lib.hid R
   have HR0 := Lib.hid R0
   have HB := Lib.hid hb
   clear R R0 hb
   go_wp2_with fail
   refine (left16 n wr).mono ?_
   rintro r w3 ⟨rfl, hb3⟩
   go_wp2_with fail
   refine (of16 (f 1) y0 y1 w3).mono ?_
   rintro r w4 ⟨rfl, hb4⟩
   go_wp2_with fail
   refine (orN n (f 1) n0 n1 y0 y1 w4).mono ?_
   rintro r w5 ⟨rfl, hb5⟩
   have hbb := below_step (below_step hb3 hb4) hb5
   have R5 := HR.out.later hbb
   have r0 := (R5.cell 0).trans (show _ = some (Value.int .u64 (hi n)) from rfl)
   have r1 := (R5.cell 1).trans (show _ = some (Value.int .u64 (lo n)) from rfl)
   have f0 := R5.frozen 0
   have f1 := R5.frozen 1
   have HR5 := Lib.hid R5
   have HZ5 := Lib.hid (HR0.out.later hbb)
   have HB5 := Lib.hid (below_step HB.out hbb)
   clear R5 HR HR0 HB hbb hb3 hb4 hb5
   go_wp2
   refine ⟨⟨2, by omega, by go_num, ?_, (HZ5.out.set_far _ _ (by dsimp only; omega)).set_far _ _ (by dsimp only; omega), (HB5.out.setCell (by dsimp only; omega) _).setCell (by dsimp only; omega) _⟩, by simp [intOf]⟩
   rw [show ofN f 2 = ofN f (0 + 1 + 1) from rfl, HN.out]
   simpa using (HR5.out.set 0 (.int .u64 (hi (65536 * n + f 1)))).set 1 (.int .u64 (lo (65536 * n + f 1)))
  ·have hidx := idx8_2 (.int .u16 (f 0)) (.int .u16 (f 1)) (.int .u16 (f 2)) (.int .u16 (f 3)) (.int .u16 (f 4)) (.int .u16 (f 5)) (.int .u16 (f 6)) (.int .u16 (f 7)) wr
   have hp7 := pow_le7 (0 + 1 + 1) (by omega)
   have hn : ofN f (0 + 1 + 1 + 1) = 65536 * ofN f (0 + 1 + 1) + f 2 := rfl
   have HN := Lib.hid hn
   clear hn
   obtain ⟨y0, y1⟩ := hf 2
   have n0 := hrg.1
   have n1 : ofN f (0 + 1 + 1) < 5192296858534827628530496329220096 := Int.lt_of_lt_of_le hrg.2 hp7
   clear hrg hp7
   generalize ofN f (0 + 1 + 1) = n at *
   have r0 := (R.cell 0).trans (show _ = some (Value.int .u64 (hi n)) from rfl)
   have r1 := (R.cell 1).trans (show _ = some (Value.int .u64 (lo n)) from rfl)
   have HR := Lib.hid R
   have HR0 := Lib.hid R0
   have HB := Lib.hid hb
   clear R R0 hb
   go_wp2_with fail
   refine (left16 n wr).mono ?_
   rintro r w3 ⟨rfl, hb3⟩
   go_wp2_with fail
   refine (of16 (f 2) y0 y1 w3).mono ?_
   rintro r w4 ⟨rfl, hb4⟩
   go_wp2_with fail
   refine (orN n (f 2) n0 n1 y0 y1 w4).mono ?_
   rintro r w5 ⟨rfl, hb5⟩
   have hbb := below_step (below_step hb3 hb4) hb5
   have R5 := HR.out.later hbb
   have r0 := (R5.cell 0).trans (show _ = some (Value.int .u64 (hi n)) from rfl)
   have r1 := (R5.cell 1).trans (show _ = some (Value.int .u64 (lo n)) from rfl)
   have f0 := R5.frozen 0
   have f1 := R5.frozen 1
   have HR5 := Lib.hid R5
   have HZ5 := Lib.hid (HR0.out.later hbb)
   have HB5 := Lib.hid (below_step HB.out hbb)
   clear R5 HR HR0 HB hbb hb3 hb4 hb5
   go_wp2
   refine ⟨⟨3, by omega, by go_num, ?_, (HZ5.out.set_far _ _ (by dsimp only; omega)).set_far _ _ (by dsimp only; omega), (HB5.out.setCell (by dsimp only; omega) _).setCell (by dsimp only; omega) _⟩, by simp [intOf]⟩
   rw [show ofN f 3 = ofN f (0 + 1 + 1 + 1) from rfl, HN.out]
   simpa using (HR5.out.set 0 (.int .u64 (hi (65536 * n + f 2)))).set 1 (.int .u64 (lo (65536 * n + f 2)))
  ·have hidx := idx8_3 (.int .u16 (f 0)) (.int .u16 (f 1)) (.int .u16 (f 2)) (.int .u16 (f 3)) (.int .u16 (f 4)) (.int .u16 (f 5)) (.int .u16 (f 6)) (.int .u16 (f 7)) wr
   have hp7 := pow_le7 (0 + 1 + 1 + 1) (by omega)
   have hn : ofN f (0 + 1 + 1 + 1 + 1) = 65536 * ofN f (0 + 1 + 1 + 1) + f 3 := rfl
   have HN := Lib.hid hn
   clear hn
   obtain ⟨y0, y1⟩ := hf 3
   have n0 := hrg.1
   have n1 : ofN f (0 + 1 + 1 + 1) < 5192296858534827628530496329220096 := Int.lt_of_lt_of_le hrg.2 hp7
   clear hrg hp7
   generalize ofN f (0 + 1 + 1 + 1) = n at *
   have r0 := (R.cell 0).trans (show _ = some (Value.int .u64 (hi n)) from rfl)
   have r1 := (R.cell 1).trans (show _ = some (Value.int .u64 (lo n)) from rfl)
   have HR := Lib.hid R
   have HR0 := Lib.hid R0
   have HB := Lib.hid hb
   clear R R0 hb
   go_wp2_with fail
   refine (left16 n wr).mono ?_
   rintro r w3 ⟨rfl, hb3⟩
   go_wp2_with fail
   refine (of16 (f 3) y0 y1 w3).mono ?_
   rintro r w4 ⟨rfl, hb4⟩
   go_wp2_with fail
   refine (orN n (f 3) n0 n1 y0 y1 w4).mono ?_
   rintro r w5 ⟨rfl, hb5⟩
   have hbb := below_step (below_step hb3 hb4) hb5
   have R5 := HR.out.later hbb
   have r0 := (R5.cell 0).trans (show _ = some (Value.int .u64 (hi n)) from rfl)
   have r1 := (R5.cell 1).trans (show _ = some (Value.int .u64 (lo n)) from rfl)
   have f0 := R5.frozen 0
   have f1 := R5.frozen 1
   have HR5 := Lib.hid R5
   have HZ5 := Lib.hid (HR0.out.later hbb)
   have HB5 := Lib.hid (below_step HB.out hbb)
   clear R5 HR HR0 HB hbb hb3 hb4 hb5
   go_wp2
   refine ⟨⟨4, by omega, by go_num, ?_, (HZ5.out.set_far _ _ (by dsimp only; omega)).set_far _ _ (by dsimp only; omega), (HB5.out.setCell (by dsimp only; omega) _).setCell (by dsimp only; omega) _⟩, by simp [intOf]⟩
   rw [show ofN f 4 = ofN f (0 + 1 + 1 + 1 + 1) from rfl, HN.out]
   simpa using (HR5.out.set 0 (.int .u64 (hi (65536 * n + f 3)))).set 1 (.int .u64 (lo (65536 * n + f 3)))
  ·have hidx := idx8_4 (.int .u16 (f 0)) (.int .u16 (f 1)) (.int .u16 (f 2)) (.int .u16 (f 3)) (.int .u16 (f 4)) (.int .u16 (f 5)) (.int .u16 (f 6)) (.int .u16 (f 7)) wr
   have hp7 := pow_le7 (0 + 1 + 1 + 1 + 1) (by omega)
   have hn : ofN f (0 + 1 + 1 + 1 + 1 + 1) = 65536 * ofN f (0 + 1 + 1 + 1 + 1) + f 4 := rfl
   have HN := Lib.hid hn
   clear hn
   obtain ⟨y0, y1⟩ := hf 4
   have n0 := hrg.1
   have n1 : ofN f (0 + 1 + 1 + 1 + 1) < 5192296858534827628530496329220096 := Int.lt_of_lt_of_le hrg.2 hp7
   clear hrg hp7
   generalize ofN f (0 + 1 + 1 + 1 + 1) = n at *
   have r0 := (R.cell 0).trans (show _ = some (Value.int .u64 (hi n)) from rfl)
   have r1 := (R.cell 1).trans (show _ = some (Value.int .u64 (lo n)) from rfl)
   have HR := Lib.hid R
   have HR0 := Lib.hid R0
   have HB := Lib.hid hb
   clear R R0 hb
   go_wp2_with fail
   refine (left16 n wr).mono ?_
   rintro r w3 ⟨rfl, hb3⟩
   go_wp2_with fail
   refine (of16 (f 4) y0 y1 w3).mono ?_
   rintro r w4 ⟨rfl, hb4⟩
   go_wp2_with fail
   refine (orN n (f 4) n0 n1 y0 y1 w4).mono ?_
   rintro r w5 ⟨rfl, hb5⟩
   have hbb := below_step (below_step hb3 hb4) hb5
   have R5 := HR.out.later hbb
   have r0 := (R5.cell 0).trans (show _ = some (Value.int .u64 (hi n)) from rfl)
   have r1 := (R5.cell 1).trans (show _ = some (Value.int .u64 (lo n)) from rfl)
   have f0 := R5.frozen 0
   have f1 := R5.frozen 1
   have HR5 := Lib.hid R5
   have HZ5 := Lib.hid (HR0.out.later hbb)
   have HB5 := Lib.hid (below_step HB.out hbb)
   clear R5 HR HR0 HB hbb hb3 hb4 hb5
   go_wp2
   refine ⟨⟨5, by omega, by go_num, ?_, (HZ5.out.set_far _ _ (by dsimp only; omega)).set_far _ _ (by dsimp only; omega), (HB5.out.setCell (by dsimp only; omega) _).setCell (by dsimp only; omega) _⟩, by simp [intOf]⟩
   rw [show ofN f 5 = ofN f (0 + 1 + 1 + 1 + 1 + 1) from rfl, HN.out]
   simpa using (HR5.out.set 0 (.int .u64 (hi (65536 * n + f 4)))).set 1 (.int .u64 (lo (65536 * n + f 4)))
  ·have hidx := idx8_5 (.int .u16 (f 0)) (.int .u16 (f 1)) (.int .u16 (f 2)) (.int .u16 (f 3)) (.int .u16 (f 4)) (.int .u16 (f 5)) (.int .u16 (f 6)) (.int .u16 (f 7)) wr
   have hp7 := pow_le7 (0 + 1 + 1 + 1 + 1 + 1) (by omega)
   have hn : ofN f (0 + 1 + 1 + 1 + 1 + 1 + 1) = 65536 * ofN f (0 + 1 + 1 + 1 + 1 + 1) + f 5 := rfl
   have HN := Lib.hid hn
   clear hn
   obtain ⟨y0, y1⟩ := hf 5
   have n0 := hrg.1
   have n1 : ofN f (0 + 1 + 1 + 1 + 1 + 1) < 5192296858534827628530496329220096 := Int.lt_of_lt_of_le hrg.2 hp7
   clear hrg hp7
   generalize ofN f (0 + 1 + 1 + 1 + 1 + 1) = n at *
   have r0 := (R.cell 0).trans (show _ = some (Value.int .u64 (hi n)) from rfl)
   have r1 := (R.cell 1).trans (show _ = some (Value.int .u64 (lo n)) from rfl)
   have HR := Lib.hid R
   have HR0 := Lib.hid R0
   have HB := Lib.hid hb
   clear R R0 hb
   go_wp2_with fail
   refine (left16 n wr).mono ?_
   rintro r w3 ⟨rfl, hb3⟩
   go_wp2_with fail
   refine (of16 (f 5) y0 y1 w3).mono ?_
   rintro r w4 ⟨rfl, hb4⟩
   go_wp2_with fail
   refine (orN n (f 5) n0 n1 y0 y1 w4).mono ?_
   rintro r w5 ⟨rfl, hb5⟩
   have hbb := below_step (below_step hb3 hb4) hb5
   have R5 := HR.out.later hbb
   have r0 := (R5.cell 0).trans (show _ = some (Value.int .u64 (hi n)) from rfl)
   have r1 := (R5.cell 1).trans (show _ = some (Value.int .u64 (lo n)) from rfl)
   have f0 := R5.frozen 0
   have f1 := R5.frozen 1
   have HR5 := Lib.hid R5
   have HZ5 := Lib.hid (HR0.out.later hbb)
   have HB5 := Lib.hid (below_step HB.out hbb)
   clear R5 HR HR0 HB hbb hb3 hb4 hb5
   go_wp2
   refine ⟨⟨6, by omega, by go_num, ?_, (HZ5.out.set_far _ _ (by dsimp only; omega)).set_far _ _ (by dsimp only; omega), (HB5.out.setCell (by dsimp only; omega) _).setCell (by dsimp only; omega) _⟩, by simp [intOf]⟩
   rw [show ofN f 6 = ofN f (0 + 1 + 1 + 1 + 1 + 1 + 1) from rfl, HN.out]
   simpa using (HR5.out.set 0 (.int .u64 (hi (65536 * n + f 5)))).set 1 (.int .u64 (lo (65536 * n + f 5)))
  ·have hidx := idx8_6 (.int .u16 (f 0)) (.int .u16 (f 1)) (.int .u16 (f 2)) (.int .u16 (f 3)) (.int .u16 (f 4)) (.int .u16 (f 5)) (.int .u16 (f 6)) (.int .u16 (f 7)) wr
   have hp7 := pow_le7 (0 + 1 + 1 + 1 + 1 + 1 + 1) (by omega)
   have hn : ofN f (0 + 1 + 1 + 1 + 1 + 1 + 1 + 1) = 65536 * ofN f (0 + 1 + 1 + 1 + 1 + 1 + 1) + f 6 := rfl
   have HN := Lib.hid hn
   clear hn
   obtain ⟨y0, y1⟩ := hf 6
   have n0 := hrg.1
   have n1 : ofN f (0 + 1 + 1 + 1 + 1 + 1 + 1) < 5192296858534827628530496329220096 := Int.lt_of_lt_of_le hrg.2 hp7
   clear hrg hp7
   generalize ofN f (0 + 1 + 1 + 1 + 1 + 1 + 1) = n at *
   have r0 := (R.cell 0).trans (show _ = some (Value.int .u64 (hi n)) from rfl)
   have r1 := (R.cell 1).trans (show _ = some (Value.int .u64 (lo n)) from rfl)
   have HR := Lib.hid R
   have HR0 := Lib.hid R0
   have HB := Lib.hid hb
   clear R R0 hb
   go_wp2_with fail
   refine (left16 n wr).mono ?_
   rintro r w3 ⟨rfl, hb3⟩
   go_wp2_with fail
   refine (of16 (f 6) y0 y1 w3).mono ?_
   rintro r w4 ⟨rfl, hb4⟩
   go_wp2_with fail
   refine (orN n (f 6) n0 n1 y0 y1 w4).mono ?_
   rintro r w5 ⟨rfl, hb5⟩
   have hbb := below_step (below_step hb3 hb4) hb5
   have R5 := HR.out.later hbb
   have r0 := (R5.cell 0).trans (show _ = some (Value.int .u64 (hi n)) from rfl)
   have r1 := (R5.cell 1).trans (show _ = some (Value.int .u64 (lo n)) from rfl)
   have f0 := R5.frozen 0
   have f1 := R5.frozen 1
   have HR5 := Lib.hid R5
   have HZ5 := Lib.hid (HR0.out.later hbb)
   have HB5 := Lib.hid (below_step HB.out hbb)
   clear R5 HR HR0 HB hbb hb3 hb4 hb5
   go_wp2
   refine ⟨⟨7, by omega, by go_num, ?_, (HZ5.out.set_far _ _ (by dsimp only; omega)).set_far _ _ (by dsimp only; omega), (HB5.out.setCell (by dsimp only; omega) _).setCell (by dsimp only; omega) _⟩, by simp [intOf]⟩
   rw [show ofN f 7 = ofN f (0 + 1 + 1 + 1 + 1 + 1 + 1 + 1) from rfl, HN.out]
   simpa using (HR5.out.set 0 (.int .u64 (hi (65536 * n + f 6)))).set 1 (.int .u64 (lo (65536 * n + f 6)))
  ·have hidx := idx8_7 (.int .u16 (f 0)) (.int .u16 (f 1)) (.int .u16 (f 2)) (.int .u16 (f 3)) (.int .u16 (f 4)) (.int .u16 (f 5)) (.int .u16 (f 6)) (.int .u16 (f 7)) wr
   have hp7 := pow_le7 (0 + 1 + 1 + 1 + 1 + 1 + 1 + 1) (by omega)
   have hn : ofN f (0 + 1 + 1 + 1 + 1 + 1 + 1 + 1 + 1) = 65536 * ofN f (0 + 1 + 1 + 1 + 1 + 1 + 1 + 1) + f 7 := rfl
   have HN := Lib.hid hn
   clear hn
   obtain ⟨y0, y1⟩ := hf 7
   have n0 := hrg.1
   have n1 : ofN f (0 + 1 + 1 + 1 + 1 + 1 + 1 + 1) < 5192296858534827628530496329220096 := Int.lt_of_lt_of_le hrg.2 hp7
   clear hrg hp7
   generalize ofN f (0 + 1 + 1 + 1 + 1 + 1 + 1 + 1) = n at *
   have r0 := (R.cell 0).trans (show _ = some (Value.int .u64 (hi n)) from rfl)
   have r1 := (R.cell 1).trans (show _ = some (Value.int .u64 (lo n)) from rfl)
   have HR := Lib.hid R
   have HR0 := Lib.hid R0
   have HB := Lib.hid hb
   clear R R0 hb
   go_wp2_with fail
   refine (left16 n wr).mono ?_
   rintro r w3 ⟨rfl, hb3⟩
   go_wp2_with fail
   refine (of16 (f 7) y0 y1 w3).mono ?_
   rintro r w4 ⟨rfl, hb4⟩
   go_wp2_with fail
   refine (orN n (f 7) n0 n1 y0 y1 w4).mono ?_
   rintro r w5 ⟨rfl, hb5⟩
   have hbb := below_step (below_step hb3 hb4) hb5
   have R5 := HR.out.later hbb
   have r0 := (R5.cell 0).trans (show _ = some (Value.int .u64 (hi n)) from rfl)
   have r1 := (R5.cell 1).trans (show _ = some (Value.int .u64 (lo n)) from rfl)
   have f0 := R5.frozen 0
   have f1 := R5.frozen 1
   have HR5 := Lib.hid R5
   have HZ5 := Lib.hid (HR0.out.later hbb)
   have HB5 := Lib.hid (below_step HB.out hbb)
   clear R5 HR HR0 HB hbb hb3 hb4 hb5
   go_wp2
   refine ⟨⟨8, by omega, by go_num, ?_, (HZ5.out.set_far _ _ (by dsimp only; omega)).set_far _ _ (by dsimp only; omega), (HB5.out.setCell (by dsimp only; omega) _).setCell (by dsimp only; omega) _⟩, by simp [intOf]⟩
   rw [show ofN f 8 = ofN f (0 + 1 + 1 + 1 + 1 + 1 + 1 + 1 + 1) from rfl, HN.out]
   simpa using (HR5.out.set 0 (.int .u64 (hi (65536 * n + f 7)))).set 1 (.int .u64 (lo (65536 * n + f 7)))
  ·have r0 := (R.cell 0).trans (show _ = some (Value.int .u64 (hi (ofN f 8))) from rfl)
   have r1 := (R.cell 1).trans (show _ = some (Value.int .u64 (lo (ofN f 8))) from rfl)
   have q0 := (R0.cell 0).trans (show _ = some (Value.int .u64 0) from rfl)
   have q1 := (R0.cell 1).trans (show _ = some (Value.int .u64 0) from rfl)
   have f0 := R0.frozen 0
   have f1 := R0.frozen 1
   have HR0 := Lib.hid R0
   have HB := Lib.hid hb
   clear R R0 hb hrg
   go_wp2
   have Q2 := (HR0.out.set 0 (.int .u64 (hi (ofN f 8)))).set 1 (.int .u64 (lo (ofN f 8)))
   have s0 := (Q2.cell 0).trans (show _ = some (Value.int .u64 (hi (ofN f 8))) from rfl)
   have s1 := (Q2.cell 1).trans (show _ = some (Value.int .u64 (lo (ofN f 8))) from rfl)
   exact bodyPost_ret (v := .agg #[.int .u64 (hi (ofN f 8)), .int .u64 (lo (ofN f 8))]) (by simp only [results, Tryz.results101]; simp [go_sem, s0, s1]) rfl ⟨rfl, (HB.out.setCell (by dsimp only; omega) _).setCell (by dsimp only; omega) _⟩
  ·omega
def byteI (a : Int) (i : Nat) : Int := a / 2 ^ (24 - 8 * i) % 256
def arr4 (a : Int) : Value := .agg #[.int .u8 (byteI a 0), .int .u8 (byteI a 1), .int .u8 (byteI a 2), .int .u8 (byteI a 3)]
theorem byteI_range (a : Int) (i : Nat) : 0 ≤ byteI a i ∧ byteI a i ≤ 255 := by unfold byteI; omega
def cells4 (f : Nat → Int) (j : Nat) : Array Value := #[.int .u8 (if 0 < j then f 0 else 0), .int .u8 (if 1 < j then f 1 else 0), .int .u8 (if 2 < j then f 2 else 0), .int .u8 (if 3 < j then f 3 else 0)]
theorem cells4_set (f : Nat → Int) (j : Nat) (h : j < 4) : (cells4 f j).setIfInBounds j (.int .u8 (f j)) = cells4 f (j + 1) := by
 rcases j with _ | _ | _ | _ | j <;> first | rfl | omega
theorem cells4_get (f : Nat → Int) (j i : Nat) (h : i < 4) : (cells4 f j)[i]? = some (.int .u8 (if i < j then f i else 0)) := by
 rcases i with _ | _ | _ | _ | i <;> first | rfl | omega
theorem bytes4_t (a : Int) (a0 : 0 ≤ a) (a1 : a ≤ 4294967295) (w : World) : Calls Tryz.prog 76 #[.int .u32 a] w fun e w' => e = .returned (arr4 a) ∧ Below w.heap.size w w' := by
 go_enter Tryz.func76, Tryz.ntmps76
 go_wp2_with fail
 have Z0 : Row ((w.alloc (.cells #[.int .u8 0, .int .u8 0, .int .u8 0, .int .u8 0] 104)).alloc (.cells #[.int .u8 0, .int .u8 0, .int .u8 0, .int .u8 0] 104)) w.heap.size #[.int .u8 0, .int .u8 0, .int .u8 0, .int .u8 0] 104 := (Row.new w _ _).alloc _
 have Z1 : Row ((w.alloc (.cells #[.int .u8 0, .int .u8 0, .int .u8 0, .int .u8 0] 104)).alloc (.cells #[.int .u8 0, .int .u8 0, .int .u8 0, .int .u8 0] 104)) (w.heap.size + 1) (cells4 (byteI a) 0) 104 := by simpa [cells4] using Row.new (w.alloc (.cells #[.int .u8 0, .int .u8 0, .int .u8 0, .int .u8 0] 104)) #[.int .u8 0, .int .u8 0, .int .u8 0, .int .u8 0] 104
 have hb0 : Below w.heap.size w ((w.alloc (.cells #[.int .u8 0, .int .u8 0, .int .u8 0, .int .u8 0] 104)).alloc (.cells #[.int .u8 0, .int .u8 0, .int .u8 0, .int .u8 0] 104)) := (by repeat (first | exact Below.refl _ _ | assumption | (with_reducible refine Below.drew ?_) | ((with_reducible first | refine Below.setCell ?_ ?h _ | refine Below.alloc ?_ ?h _ | refine Below.trans ?_ (hb.mono ?h) | refine Below.trans ?_ (hb0.mono ?h)); case h => first | omega | (simp; done) | (simp; omega))))
 generalize (w.alloc (.cells #[.int .u8 0, .int .u8 0, .int .u8 0, .int .u8 0] 104)).alloc (.cells #[.int .u8 0, .int .u8 0, .int .u8 0, .int .u8 0] 104) = w0 at *
 go_loopw [5] (fun i wr => ∃ (j : Nat), j ≤ 4 ∧ i = .int .i64 j ∧ Row wr (w.heap.size + 1) (cells4 (byteI a) j) 104 ∧ Row wr w.heap.size #[.int .u8 0, .int .u8 0, .int .u8 0, .int .u8 0] 104 ∧ Below w.heap.size w wr) (fun i _ => 4 - (intOf i).toNat)
 case atStart => exact ⟨0, by omega, rfl, Z1, Z0, hb0⟩
 case round =>
  clear Z0 Z1 hb0
  obtain ⟨j, hj, rfl, R, R0, hb⟩ := hrel
  by_cases hlt : j < 4
  ·have hlb : decide ((j : Int) < 4) = true := by simp; omega
   have c0 := (R.cell j).trans (cells4_get (byteI a) j j hlt)
   have f0 := R.frozen j
   rw [if_neg (Nat.lt_irrefl j)] at c0
   have HR := Lib.hid R
   have HR0 := Lib.hid R0
   have HB := Lib.hid hb
   clear R R0 hb
   go_wp2
   refine ⟨⟨j + 1, by omega, by go_num, ?_, HR0.out.set_far _ _ (by simp), HB.out.setCell (by simp) _⟩, by simp [intOf]; omega⟩
   have := HR.out.set j (.int .u8 (byteI a j))
   rw [cells4_set (byteI a) j hlt] at this
   exact this
  ·have hj4 : j = 4 := by omega
   subst hj4
   have R' : Row wr (w.heap.size + 1) #[.int .u8 (byteI a 0), .int .u8 (byteI a 1), .int .u8 (byteI a 2), .int .u8 (byteI a 3)] 104 := R
   have c0 := (R'.cell 0).trans (show _ = some (Value.int .u8 (byteI a 0)) from rfl)
   have c1 := (R'.cell 1).trans (show _ = some (Value.int .u8 (byteI a 1)) from rfl)
   have c2 := (R'.cell 2).trans (show _ = some (Value.int .u8 (byteI a 2)) from rfl)
   have c3 := (R'.cell 3).trans (show _ = some (Value.int .u8 (byteI a 3)) from rfl)
   have z0 := (R0.cell 0).trans (show _ = some (Value.int .u8 0) from rfl)
   have z1 := (R0.cell 1).trans (show _ = some (Value.int .u8 0) from rfl)
   have z2 := (R0.cell 2).trans (show _ = some (Value.int .u8 0) from rfl)
   have z3 := (R0.cell 3).trans (show _ = some (Value.int .u8 0) from rfl)
   have f0 := R0.frozen 0
   have f1 := R0.frozen 1
   have f2 := R0.frozen 2
   have f3 := R0.frozen 3
   have HB := Lib.hid hb
   have HR0 := Lib.hid R0
   clear R R' R0 hb
   go_wp2
   have Q := (((HR0.out.set 0 (.int .u8 (byteI a 0))).set 1 (.int .u8 (byteI a 1))).set 2 (.int .u8 (byteI a 2))).set 3 (.int .u8 (byteI a 3))
   have s0 := (Q.cell 0).trans (show _ = some (Value.int .u8 (byteI a 0)) from rfl)
   have s1 := (Q.cell 1).trans (show _ = some (Value.int .u8 (byteI a 1)) from rfl)
   have s2 := (Q.cell 2).trans (show _ = some (Value.int .u8 (byteI a 2)) from rfl)
   have s3 := (Q.cell 3).trans (show _ = some (Value.int .u8 (byteI a 3)) from rfl)
   exact bodyPost_ret (v := .agg #[.int .u8 (byteI a 0), .int .u8 (byteI a 1), .int .u8 (byteI a 2), .int .u8 (byteI a 3)]) (by simp only [results, Tryz.results76]; simp [go_sem, s0, s1, s2, s3]) rfl ⟨rfl, (((HB.out.setCell (Nat.le_refl _) _).setCell (Nat.le_refl _) _).setCell (Nat.le_refl _) _).setCell (Nat.le_refl _) _⟩
theorem ofInt32 (x : Int) (h0 : 0 ≤ x) (h1 : x < 4294967296) : (BitVec.ofInt 32 x).toNat = x.toNat := by
 obtain ⟨n, rfl⟩ := Int.eq_ofNat_of_zero_le h0
 rw [BitVec.ofInt_natCast, BitVec.toNat_ofNat, Int.toNat_natCast]; exact Nat.mod_eq_of_lt (by omega)
theorem or32 (n b : Int) (n0 : 0 ≤ n) (n1 : n < 16777216) (b0 : 0 ≤ b) (b1 : b ≤ 255) : bits .or .u32 (n * 256) b = n * 256 + b := by
 show IntKind.u32.wrap ((BitVec.ofInt 32 (n * 256) ||| BitVec.ofInt 32 b).toNat : Int) = _
 rw [BitVec.toNat_or, ofInt32 _ (by omega) (by omega), ofInt32 b (by omega) (by omega)]
 have h := Nat.two_pow_add_eq_or_of_lt (b := b.toNat) (i := 8) (by omega) n.toNat
 rw [show (n * 256).toNat = 2 ^ 8 * n.toNat by omega, ← h]
 simp [IntKind.wrap, IntKind.bits, IntKind.signed]
 omega
theorem idx4_0 (b0 b1 b2 b3 : Value) (w : World) : (Instr.index 104 (.agg #[b0, b1, b2, b3]) (.int .i64 0)).run Tryz.prog w = .ok b0 w := by kernel_rfl
theorem idx4_1 (b0 b1 b2 b3 : Value) (w : World) : (Instr.index 104 (.agg #[b0, b1, b2, b3]) (.int .i64 1)).run Tryz.prog w = .ok b1 w := by kernel_rfl
theorem idx4_2 (b0 b1 b2 b3 : Value) (w : World) : (Instr.index 104 (.agg #[b0, b1, b2, b3]) (.int .i64 2)).run Tryz.prog w = .ok b2 w := by kernel_rfl
theorem idx4_3 (b0 b1 b2 b3 : Value) (w : World) : (Instr.index 104 (.agg #[b0, b1, b2, b3]) (.int .i64 3)).run Tryz.prog w = .ok b3 w := by kernel_rfl
def part4 (b0 b1 b2 b3 : Int) : Nat → Int
 | 0 => 0
 | 1 => b0
 | 2 => b0 * 256 + b1
 | 3 => (b0 * 256 + b1) * 256 + b2
 | _ => ((b0 * 256 + b1) * 256 + b2) * 256 + b3
theorem of4_t (b0 b1 b2 b3 : Int) (h0 : 0 ≤ b0 ∧ b0 ≤ 255) (h1 : 0 ≤ b1 ∧ b1 ≤ 255) (h2 : 0 ≤ b2 ∧ b2 ≤ 255) (h3 : 0 ≤ b3 ∧ b3 ≤ 255) (w : World) : Calls Tryz.prog 97 #[.agg #[.int .u8 b0, .int .u8 b1, .int .u8 b2, .int .u8 b3]] w fun e w' => e = .returned (.int .u32 (part4 b0 b1 b2 b3 4)) ∧ Below w.heap.size w w' := by
 go_enter Tryz.func97, Tryz.ntmps97
 go_wp2_with fail
 have hb0 : Below w.heap.size w (w.alloc (.cells #[.int .u8 b0, .int .u8 b1, .int .u8 b2, .int .u8 b3] 104)) := (by repeat (first | exact Below.refl _ _ | assumption | (with_reducible refine Below.drew ?_) | ((with_reducible first | refine Below.setCell ?_ ?h _ | refine Below.alloc ?_ ?h _ | refine Below.trans ?_ (hb0.mono ?h)); case h => first | omega | (simp; done) | (simp; omega))))
 generalize w.alloc (.cells #[.int .u8 b0, .int .u8 b1, .int .u8 b2, .int .u8 b3] 104) = w0 at *
 have g0 := or32 0 b0 (by omega) (by omega) h0.1 h0.2
 have g1 := or32 b0 b1 (by omega) (by omega) h1.1 h1.2
 have g2 := or32 (b0 * 256 + b1) b2 (by omega) (by omega) h2.1 h2.2
 have g3 := or32 ((b0 * 256 + b1) * 256 + b2) b3 (by omega) (by omega) h3.1 h3.2
 simp at g0
 obtain ⟨p0, q0⟩ := h0
 obtain ⟨p1, q1⟩ := h1
 obtain ⟨p2, q2⟩ := h2
 obtain ⟨p3, q3⟩ := h3
 go_loopw [3, 7] (fun n i wr => ∃ (j : Nat), j ≤ 4 ∧ i = .int .i64 j ∧ n = .int .u32 (part4 b0 b1 b2 b3 j) ∧ wr = w0) (fun _ i _ => 4 - (intOf i).toNat)
 case atStart => exact ⟨0, by omega, rfl, rfl, rfl⟩
 case round =>
  obtain ⟨j, hj, rfl, rfl, rfl⟩ := hrel
  rcases j with _ | _ | _ | _ | _ | j
  ·simp only [part4]
   have hi := idx4_0 (.int .u8 b0) (.int .u8 b1) (.int .u8 b2) (.int .u8 b3) wr
   go_wp2
   exact ⟨⟨1, by omega, by go_num, by simp only [part4], trivial⟩, by simp [intOf]⟩
  ·simp only [part4]
   have hi := idx4_1 (.int .u8 b0) (.int .u8 b1) (.int .u8 b2) (.int .u8 b3) wr
   go_wp2
   exact ⟨⟨2, by omega, by go_num, by simp only [part4], trivial⟩, by simp [intOf]⟩
  ·simp only [part4]
   have hi := idx4_2 (.int .u8 b0) (.int .u8 b1) (.int .u8 b2) (.int .u8 b3) wr
   go_wp2
   exact ⟨⟨3, by omega, by go_num, by simp only [part4], trivial⟩, by simp [intOf]⟩
  ·simp only [part4]
   have hi := idx4_3 (.int .u8 b0) (.int .u8 b1) (.int .u8 b2) (.int .u8 b3) wr
   go_wp2
   exact ⟨⟨4, by omega, by go_num, by simp only [part4], trivial⟩, by simp [intOf]⟩
  ·simp only [part4]
   go_wp2
   go_ret
   exact ⟨rfl, hb0⟩
  ·omega
theorem part4_bytes (a : Int) (a0 : 0 ≤ a) (a1 : a ≤ 4294967295) : part4 (byteI a 0) (byteI a 1) (byteI a 2) (byteI a 3) 4 = a := by
 simp only [part4, byteI]
 simp
 omega
def mask4 (n : Int) : Int := if n < 1 then 0 else 4294967296 - 2 ^ (32 - (min n 32).toNat)
def top4 (a n : Int) : Int := ((a.toNat &&& (mask4 n).toNat : Nat) : Int)
end Go.Proofs.YtboinifeemghaaaGreatDoor
namespace Go.Proofs
open Go.Shelf
def Tryz.lays156_ren : Go.Shelf.Ren := ⟨fun | 156 => 45 | 165 => 88 | 166 => 89 | 169 => 90 | 240 => 124 | 241 => 125 | 276 => 148 | 277 => 149 | n => n, fun | 31 => 77 | 9 => 9 | 3 => 3 | 4 => 4 | 0 => 0 | 20 => 20 | 72 => 120 | 76 => 124 | 70 => 117 | 37 => 118 | 75 => 123 | 127 => 159 | 164 => 180 | 5 => 5 | 80 => 126 | n => n, fun | n => n⟩
theorem Tryz.lays156 : Go.Proofs.Lays.n156 Tryz.prog Tryz.lays156_ren := {
 mixed := by kernel_rfl
 f156 := Tryz.func45.trans (congrArg some (by kernel_rfl))
 f165 := Tryz.func88.trans (congrArg some (by kernel_rfl))
 f166 := Tryz.func89.trans (congrArg some (by kernel_rfl))
 f169 := Tryz.func90.trans (congrArg some (by kernel_rfl))
 f240 := Tryz.func124.trans (congrArg some (by kernel_rfl))
 f241 := Tryz.func125.trans (congrArg some (by kernel_rfl))
 f276 := Tryz.func148.trans (congrArg some (by kernel_rfl))
 f277 := Tryz.func149.trans (congrArg some (by kernel_rfl))
 t0 := Tryz.underlying0
 a0 := Tryz.isAgg0
 z0 := Tryz.sizeOf0
 v0 := Tryz.zeroValue0
 t3 := Tryz.underlying3
 a3 := Tryz.isAgg3
 z3 := Tryz.sizeOf3
 v3 := Tryz.zeroValue3
 t4 := Tryz.underlying4
 a4 := Tryz.isAgg4
 z4 := Tryz.sizeOf4
 v4 := Tryz.zeroValue4
 t9 := Tryz.underlying9
 a9 := Tryz.isAgg9
 z9 := Tryz.sizeOf9
 v9 := Tryz.zeroValue9
 t20 := Tryz.underlying20
 a20 := Tryz.isAgg20
 z20 := Tryz.sizeOf20
 v20 := Tryz.zeroValue20
 t31 := Tryz.underlying77
 a31 := Tryz.isAgg77
 z31 := Tryz.sizeOf77
 v31 := Tryz.zeroValue77
 t37 := Tryz.underlying118
 a37 := Tryz.isAgg118
 z37 := Tryz.sizeOf118
 v37 := Tryz.zeroValue118
 t70 := Tryz.underlying117
 a70 := Tryz.isAgg117
 z70 := Tryz.sizeOf117
 v70 := Tryz.zeroValue117
 t72 := Tryz.underlying120
 a72 := Tryz.isAgg120
 z72 := Tryz.sizeOf120
 v72 := Tryz.zeroValue120
 t75 := Tryz.underlying123
 a75 := Tryz.isAgg123
 z75 := Tryz.sizeOf123
 v75 := Tryz.zeroValue123
 t76 := Tryz.underlying124
 a76 := Tryz.isAgg124
 z76 := Tryz.sizeOf124
 v76 := Tryz.zeroValue124
 t127 := Tryz.underlying159
 a127 := Tryz.isAgg159
 z127 := Tryz.sizeOf159
 v127 := Tryz.zeroValue159
 t164 := Tryz.underlying180
 a164 := Tryz.isAgg180
 z164 := Tryz.sizeOf180
 v164 := Tryz.zeroValue180 }
theorem Tryz.Builder_Extra_156 : Builder.Extra Tryz.prog Tryz.lays156_ren := {
 sizeBuilder := by kernel_rfl
 liesBuilder := by kernel_rfl
 t5 := Tryz.underlying5
 a5 := Tryz.isAgg5
 z5 := Tryz.sizeOf5
 v5 := Tryz.zeroValue5
 infoByte := by kernel_rfl
 cellsByte := by kernel_rfl
 sizeByte := by kernel_rfl
 neB5 := by decide }
open Go.RowKit in
theorem Tryz.strings_Join (bk o c : Nat) (xs : List ByteArray) (sep : ByteArray) (w : World) (hcells : ∀ (j : Nat) x, xs[j]? = some x → w.cell? ⟨bk, o + j, none⟩ = some (.string x)) (hbk : bk < w.heap.size) (hN : xs.length ≤ 140737488355328) (hcap : xs.length ≤ c) (hlen : (Lib.join (xs.map (·.data.toList)) sep.data.toList).length ≤ 140737488355328) :
 Calls Tryz.prog 45 #[.slice (some ⟨bk, o, none⟩) xs.length c, .string sep] w fun e w' => e = .returned (.string ⟨(Lib.join (xs.map (·.data.toList)) sep.data.toList).toArray⟩) ∧ Below w.heap.size w w' := Any.strings_Join Tryz.lays156 Tryz.Builder_Extra_156 bk o c xs sep w hcells hbk hN hcap hlen
def Tryz.lays161_ren : Go.Shelf.Ren := ⟨fun | 161 => 123 | 231 => 144 | 227 => 145 | 233 => 146 | 235 => 147 | 228 => 164 | 197 => 150 | 151 => 165 | 260 => 166 | 152 => 174 | 137 => 177 | 119 => 178 | 224 => 129 | 225 => 128 | 217 => 127 | 266 => 151 | n => n, fun | 9 => 9 | 4 => 4 | 3 => 3 | 5 => 5 | 117 => 176 | 116 => 175 | 0 => 0 | 124 => 179 | 105 => 183 | 21 => 21 | 119 => 208 | 46 => 70 | 139 => 211 | 138 => 210 | n => n, fun | 3 => 6 | 4 => 7 | n => n⟩
theorem Tryz.lays161 : Go.Proofs.Lays.n161 Tryz.prog Tryz.lays161_ren := {
 mixed := by kernel_rfl
 f119 := Tryz.func178.trans (congrArg some (by kernel_rfl))
 f137 := Tryz.func177.trans (congrArg some (by kernel_rfl))
 f151 := Tryz.func165.trans (congrArg some (by kernel_rfl))
 f152 := Tryz.func174.trans (congrArg some (by kernel_rfl))
 f161 := Tryz.func123.trans (congrArg some (by kernel_rfl))
 f197 := Tryz.func150.trans (congrArg some (by kernel_rfl))
 f217 := Tryz.func127.trans (congrArg some (by kernel_rfl))
 f224 := Tryz.func129.trans (congrArg some (by kernel_rfl))
 f225 := Tryz.func128.trans (congrArg some (by kernel_rfl))
 f227 := Tryz.func145.trans (congrArg some (by kernel_rfl))
 f228 := Tryz.func164.trans (congrArg some (by kernel_rfl))
 f231 := Tryz.func144.trans (congrArg some (by kernel_rfl))
 f233 := Tryz.func146.trans (congrArg some (by kernel_rfl))
 f235 := Tryz.func147.trans (congrArg some (by kernel_rfl))
 f260 := Tryz.func166.trans (congrArg some (by kernel_rfl))
 f266 := Tryz.func151.trans (congrArg some (by kernel_rfl))
 t0 := Tryz.underlying0
 a0 := Tryz.isAgg0
 z0 := Tryz.sizeOf0
 v0 := Tryz.zeroValue0
 t3 := Tryz.underlying3
 a3 := Tryz.isAgg3
 z3 := Tryz.sizeOf3
 v3 := Tryz.zeroValue3
 t4 := Tryz.underlying4
 a4 := Tryz.isAgg4
 z4 := Tryz.sizeOf4
 v4 := Tryz.zeroValue4
 t5 := Tryz.underlying5
 a5 := Tryz.isAgg5
 z5 := Tryz.sizeOf5
 v5 := Tryz.zeroValue5
 t9 := Tryz.underlying9
 a9 := Tryz.isAgg9
 z9 := Tryz.sizeOf9
 v9 := Tryz.zeroValue9
 t21 := Tryz.underlying21
 a21 := Tryz.isAgg21
 z21 := Tryz.sizeOf21
 v21 := Tryz.zeroValue21
 t46 := Tryz.underlying70
 a46 := Tryz.isAgg70
 z46 := Tryz.sizeOf70
 v46 := Tryz.zeroValue70
 t105 := Tryz.underlying183
 a105 := Tryz.isAgg183
 z105 := Tryz.sizeOf183
 v105 := Tryz.zeroValue183
 t116 := Tryz.underlying175
 a116 := Tryz.isAgg175
 z116 := Tryz.sizeOf175
 t117 := Tryz.underlying176
 a117 := Tryz.isAgg176
 z117 := Tryz.sizeOf176
 v117 := Tryz.zeroValue176
 t119 := Tryz.underlying208
 a119 := Tryz.isAgg208
 z119 := Tryz.sizeOf208
 t124 := Tryz.underlying179
 a124 := Tryz.isAgg179
 z124 := Tryz.sizeOf179
 v124 := Tryz.zeroValue179
 t138 := Tryz.underlying210
 a138 := Tryz.isAgg210
 z138 := Tryz.sizeOf210
 v138 := Tryz.zeroValue210
 t139 := Tryz.underlying211
 a139 := Tryz.isAgg211
 z139 := Tryz.sizeOf211
 v139 := Tryz.zeroValue211
 g3 := by kernel_rfl
 g4 := by kernel_rfl }
open Go.RowKit in
theorem Tryz.strings_TrimLeft_one (s : ByteArray) (c : UInt8) (hc : c.toNat < 128) (w : World) :
 Calls Tryz.prog 123 #[.string s, .string ⟨#[c]⟩] w fun e w' => e = .returned (.string ⟨(Lib.trimLeftB s.data.toList c).toArray⟩) ∧ w' = w := Any.strings_TrimLeft_one Tryz.lays161 s c hc w
def Tryz.lays134_ren : Go.Shelf.Ren := ⟨fun | 134 => 163 | 129 => 170 | n => n, fun | 53 => 24 | 3 => 3 | 4 => 4 | 46 => 70 | 5 => 5 | 9 => 9 | n => n, fun | n => n⟩
theorem Tryz.lays134 : Go.Proofs.Lays.n134 Tryz.prog Tryz.lays134_ren := {
 mixed := by kernel_rfl
 f129 := Tryz.func170.trans (congrArg some (by kernel_rfl))
 f134 := Tryz.func163.trans (congrArg some (by kernel_rfl))
 t3 := Tryz.underlying3
 a3 := Tryz.isAgg3
 z3 := Tryz.sizeOf3
 v3 := Tryz.zeroValue3
 t4 := Tryz.underlying4
 a4 := Tryz.isAgg4
 z4 := Tryz.sizeOf4
 v4 := Tryz.zeroValue4
 t5 := Tryz.underlying5
 a5 := Tryz.isAgg5
 z5 := Tryz.sizeOf5
 v5 := Tryz.zeroValue5
 t9 := Tryz.underlying9
 a9 := Tryz.isAgg9
 z9 := Tryz.sizeOf9
 v9 := Tryz.zeroValue9
 t46 := Tryz.underlying70
 a46 := Tryz.isAgg70
 z46 := Tryz.sizeOf70
 v46 := Tryz.zeroValue70
 t53 := Tryz.underlying24
 a53 := Tryz.isAgg24
 z53 := Tryz.sizeOf24
 v53 := Tryz.zeroValue24 }
theorem Tryz.bits_LeadingZeros64 (x : Int) (w : World) (h0 : 0 ≤ x) (h1 : x ≤ 18446744073709551615) :
 Calls Tryz.prog 163 #[.int .u64 x] w fun e w' => e = .returned (.int .i64 (64 - (Lib.bitLen x.toNat : Int))) ∧ w' = w := Any.bits_LeadingZeros64 Tryz.lays134 x w h0 h1
def Tryz.laysM246_ren : Go.Shelf.Ren := ⟨fun | 246 => 141 | 283 => 159 | 284 => 160 | 285 => 161 | 286 => 162 | 129 => 170 | 317 => 169 | 318 => 171 | 319 => 172 | 320 => 173 | 337 => 175 | 338 => 176 | n => n, fun | 2 => 2 | 3 => 3 | 9 => 9 | 4 => 4 | 171 => 192 | 0 => 0 | 53 => 24 | 37 => 118 | 5 => 5 | 173 => 195 | 212 => 203 | 51 => 69 | 20 => 20 | 213 => 204 | 46 => 70 | 232 => 217 | 233 => 218 | n => n, fun | 17 => 5 | 18 => 8 | 19 => 9 | n => n⟩
def Tryz.laysM243_ren : Go.Shelf.Ren := ⟨fun | 243 => 117 | 246 => 141 | 283 => 159 | 284 => 160 | 285 => 161 | 286 => 162 | 129 => 170 | 317 => 169 | 318 => 171 | 319 => 172 | 320 => 173 | 337 => 175 | 338 => 176 | n => n, fun | 3 => 3 | 9 => 9 | 2 => 2 | 4 => 4 | 171 => 192 | 0 => 0 | 53 => 24 | 37 => 118 | 5 => 5 | 173 => 195 | 212 => 203 | 51 => 69 | 20 => 20 | 213 => 204 | 46 => 70 | 232 => 217 | 233 => 218 | n => n, fun | 17 => 5 | 18 => 8 | 19 => 9 | n => n⟩
def Tryz.laysM171_ren : Go.Shelf.Ren := ⟨fun | 171 => 77 | 243 => 117 | 246 => 141 | 283 => 159 | 284 => 160 | 285 => 161 | 286 => 162 | 129 => 170 | 317 => 169 | 318 => 171 | 319 => 172 | 320 => 173 | 337 => 175 | 338 => 176 | n => n, fun | 3 => 3 | 9 => 9 | 2 => 2 | 4 => 4 | 171 => 192 | 0 => 0 | 53 => 24 | 37 => 118 | 5 => 5 | 173 => 195 | 212 => 203 | 51 => 69 | 20 => 20 | 213 => 204 | 46 => 70 | 232 => 217 | 233 => 218 | n => n, fun | 17 => 5 | 18 => 8 | 19 => 9 | n => n⟩
theorem Tryz.laysM171 : Go.Proofs.LaysM.n171 Tryz.prog Tryz.laysM171_ren := {
 mixed := by kernel_rfl
 f129 := Tryz.func170.trans (congrArg some (by kernel_rfl))
 f171 := Tryz.func77.trans (congrArg some (by kernel_rfl))
 f243 := Tryz.func117.trans (congrArg some (by kernel_rfl))
 f246 := Tryz.func141.trans (congrArg some (by kernel_rfl))
 f283 := Tryz.func159.trans (congrArg some (by kernel_rfl))
 f284 := Tryz.func160.trans (congrArg some (by kernel_rfl))
 f285 := Tryz.func161.trans (congrArg some (by kernel_rfl))
 f286 := Tryz.func162.trans (congrArg some (by kernel_rfl))
 f317 := Tryz.func169.trans (congrArg some (by kernel_rfl))
 f318 := Tryz.func171.trans (congrArg some (by kernel_rfl))
 f319 := Tryz.func172.trans (congrArg some (by kernel_rfl))
 f320 := Tryz.func173.trans (congrArg some (by kernel_rfl))
 f337 := Tryz.func175.trans (congrArg some (by kernel_rfl))
 f338 := Tryz.func176.trans (congrArg some (by kernel_rfl))
 t0 := Tryz.underlying0
 a0 := Tryz.isAgg0
 z0 := Tryz.sizeOf0
 v0 := Tryz.zeroValue0
 t2 := Tryz.underlying2
 a2 := Tryz.isAgg2
 z2 := Tryz.sizeOf2
 v2 := Tryz.zeroValue2
 t3 := Tryz.underlying3
 a3 := Tryz.isAgg3
 z3 := Tryz.sizeOf3
 v3 := Tryz.zeroValue3
 t4 := Tryz.underlying4
 a4 := Tryz.isAgg4
 z4 := Tryz.sizeOf4
 v4 := Tryz.zeroValue4
 t5 := Tryz.underlying5
 a5 := Tryz.isAgg5
 z5 := Tryz.sizeOf5
 v5 := Tryz.zeroValue5
 t9 := Tryz.underlying9
 a9 := Tryz.isAgg9
 z9 := Tryz.sizeOf9
 v9 := Tryz.zeroValue9
 t20 := Tryz.underlying20
 a20 := Tryz.isAgg20
 z20 := Tryz.sizeOf20
 v20 := Tryz.zeroValue20
 t37 := Tryz.underlying118
 a37 := Tryz.isAgg118
 z37 := Tryz.sizeOf118
 v37 := Tryz.zeroValue118
 t46 := Tryz.underlying70
 a46 := Tryz.isAgg70
 z46 := Tryz.sizeOf70
 v46 := Tryz.zeroValue70
 t51 := Tryz.underlying69
 a51 := Tryz.isAgg69
 z51 := Tryz.sizeOf69
 v51 := Tryz.zeroValue69
 t53 := Tryz.underlying24
 a53 := Tryz.isAgg24
 z53 := Tryz.sizeOf24
 v53 := Tryz.zeroValue24
 t171 := Tryz.underlying192
 a171 := Tryz.isAgg192
 z171 := Tryz.sizeOf192
 v171 := Tryz.zeroValue192
 t173 := Tryz.underlying195
 a173 := Tryz.isAgg195
 z173 := Tryz.sizeOf195
 v173 := Tryz.zeroValue195
 t212 := Tryz.underlying203
 a212 := Tryz.isAgg203
 z212 := Tryz.sizeOf203
 v212 := Tryz.zeroValue203
 t213 := Tryz.underlying204
 a213 := Tryz.isAgg204
 z213 := Tryz.sizeOf204
 t232 := Tryz.underlying217
 a232 := Tryz.isAgg217
 z232 := Tryz.sizeOf217
 v232 := Tryz.zeroValue217
 t233 := Tryz.underlying218
 a233 := Tryz.isAgg218
 z233 := Tryz.sizeOf218
 v233 := Tryz.zeroValue218
 g17 := by kernel_rfl
 g18 := by kernel_rfl
 g19 := by kernel_rfl
 i0 := by kernel_rfl
 i2 := by kernel_rfl
 i3 := by kernel_rfl
 i4 := by kernel_rfl
 i5 := by kernel_rfl
 i9 := by kernel_rfl
 i20 := by kernel_rfl
 i37 := by kernel_rfl
 i46 := by kernel_rfl
 i51 := by kernel_rfl
 i53 := by kernel_rfl
 i171 := by kernel_rfl
 i173 := by kernel_rfl
 i212 := by kernel_rfl
 i232 := by kernel_rfl
 i233 := by kernel_rfl
 m17 := by kernel_rfl
 m18 := by kernel_rfl
 m19 := by kernel_rfl }
open Go.RowKit Go.Sort Go.Lib in
theorem Tryz.strconv_Itoa (n : Int) (h0 : -9223372036854775808 ≤ n) (h1 : n ≤ 9223372036854775807) (w : World) (htab : Lib.TabIs Tryz.prog w "internal/strconv.uint64pow10" .u64 Lib.pow10Tab) :
 Calls Tryz.prog 77 #[.int .i64 n] w fun e w' => e = .returned (.string ⟨(Lib.itoa n).toArray⟩) ∧ ∃ k os, w' = grow (w.drewN k) os := Any.strconv_Itoa Tryz.laysM171 n h0 h1 w htab
def Tryz.laysC245_ren : Go.Shelf.Ren := ⟨fun | 245 => 132 | 279 => 155 | 280 => 156 | 281 => 157 | 282 => 158 | 316 => 167 | 171 => 77 | 205 => 168 | 243 => 117 | 246 => 141 | 283 => 159 | 284 => 160 | 285 => 161 | 286 => 162 | 129 => 170 | 317 => 169 | 318 => 171 | 319 => 172 | 320 => 173 | 337 => 175 | 338 => 176 | n => n, fun | 9 => 9 | 3 => 3 | 75 => 123 | 167 => 187 | 4 => 4 | 168 => 189 | 210 => 200 | 37 => 118 | 0 => 0 | 127 => 159 | 145 => 214 | 143 => 212 | 2 => 2 | 171 => 192 | 53 => 24 | 5 => 5 | 173 => 195 | 212 => 203 | 51 => 69 | 20 => 20 | 213 => 204 | 46 => 70 | 232 => 217 | 233 => 218 | 80 => 126 | n => n, fun | 15 => 3 | 16 => 4 | 17 => 5 | 18 => 8 | 19 => 9 | n => n⟩
theorem Tryz.laysC245 : Go.Proofs.LaysC.n245 Tryz.prog Tryz.laysC245_ren := {
 mixed := by kernel_rfl
 f129 := Tryz.func170.trans (congrArg some (by kernel_rfl))
 f171 := Tryz.func77.trans (congrArg some (by kernel_rfl))
 f205 := Tryz.func168.trans (congrArg some (by kernel_rfl))
 f243 := Tryz.func117.trans (congrArg some (by kernel_rfl))
 f245 := Tryz.func132.trans (congrArg some (by kernel_rfl))
 f246 := Tryz.func141.trans (congrArg some (by kernel_rfl))
 f279 := Tryz.func155.trans (congrArg some (by kernel_rfl))
 f280 := Tryz.func156.trans (congrArg some (by kernel_rfl))
 f281 := Tryz.func157.trans (congrArg some (by kernel_rfl))
 f282 := Tryz.func158.trans (congrArg some (by kernel_rfl))
 f283 := Tryz.func159.trans (congrArg some (by kernel_rfl))
 f284 := Tryz.func160.trans (congrArg some (by kernel_rfl))
 f285 := Tryz.func161.trans (congrArg some (by kernel_rfl))
 f286 := Tryz.func162.trans (congrArg some (by kernel_rfl))
 f316 := Tryz.func167.trans (congrArg some (by kernel_rfl))
 f317 := Tryz.func169.trans (congrArg some (by kernel_rfl))
 f318 := Tryz.func171.trans (congrArg some (by kernel_rfl))
 f319 := Tryz.func172.trans (congrArg some (by kernel_rfl))
 f320 := Tryz.func173.trans (congrArg some (by kernel_rfl))
 f337 := Tryz.func175.trans (congrArg some (by kernel_rfl))
 f338 := Tryz.func176.trans (congrArg some (by kernel_rfl))
 t0 := Tryz.underlying0
 a0 := Tryz.isAgg0
 z0 := Tryz.sizeOf0
 v0 := Tryz.zeroValue0
 t2 := Tryz.underlying2
 a2 := Tryz.isAgg2
 z2 := Tryz.sizeOf2
 v2 := Tryz.zeroValue2
 t3 := Tryz.underlying3
 a3 := Tryz.isAgg3
 z3 := Tryz.sizeOf3
 v3 := Tryz.zeroValue3
 t4 := Tryz.underlying4
 a4 := Tryz.isAgg4
 z4 := Tryz.sizeOf4
 v4 := Tryz.zeroValue4
 t5 := Tryz.underlying5
 a5 := Tryz.isAgg5
 z5 := Tryz.sizeOf5
 v5 := Tryz.zeroValue5
 t9 := Tryz.underlying9
 a9 := Tryz.isAgg9
 z9 := Tryz.sizeOf9
 v9 := Tryz.zeroValue9
 t20 := Tryz.underlying20
 a20 := Tryz.isAgg20
 z20 := Tryz.sizeOf20
 v20 := Tryz.zeroValue20
 t37 := Tryz.underlying118
 a37 := Tryz.isAgg118
 z37 := Tryz.sizeOf118
 v37 := Tryz.zeroValue118
 t46 := Tryz.underlying70
 a46 := Tryz.isAgg70
 z46 := Tryz.sizeOf70
 v46 := Tryz.zeroValue70
 t51 := Tryz.underlying69
 a51 := Tryz.isAgg69
 z51 := Tryz.sizeOf69
 v51 := Tryz.zeroValue69
 t53 := Tryz.underlying24
 a53 := Tryz.isAgg24
 z53 := Tryz.sizeOf24
 v53 := Tryz.zeroValue24
 t75 := Tryz.underlying123
 a75 := Tryz.isAgg123
 z75 := Tryz.sizeOf123
 v75 := Tryz.zeroValue123
 t127 := Tryz.underlying159
 a127 := Tryz.isAgg159
 z127 := Tryz.sizeOf159
 v127 := Tryz.zeroValue159
 t143 := Tryz.underlying212
 a143 := Tryz.isAgg212
 z143 := Tryz.sizeOf212
 v143 := Tryz.zeroValue212
 t145 := Tryz.underlying214
 a145 := Tryz.isAgg214
 z145 := Tryz.sizeOf214
 v145 := Tryz.zeroValue214
 t167 := Tryz.underlying187
 a167 := Tryz.isAgg187
 z167 := Tryz.sizeOf187
 v167 := Tryz.zeroValue187
 t168 := Tryz.underlying189
 a168 := Tryz.isAgg189
 z168 := Tryz.sizeOf189
 v168 := Tryz.zeroValue189
 t171 := Tryz.underlying192
 a171 := Tryz.isAgg192
 z171 := Tryz.sizeOf192
 v171 := Tryz.zeroValue192
 t173 := Tryz.underlying195
 a173 := Tryz.isAgg195
 z173 := Tryz.sizeOf195
 v173 := Tryz.zeroValue195
 t210 := Tryz.underlying200
 a210 := Tryz.isAgg200
 z210 := Tryz.sizeOf200
 v210 := Tryz.zeroValue200
 t212 := Tryz.underlying203
 a212 := Tryz.isAgg203
 z212 := Tryz.sizeOf203
 v212 := Tryz.zeroValue203
 t213 := Tryz.underlying204
 a213 := Tryz.isAgg204
 z213 := Tryz.sizeOf204
 t232 := Tryz.underlying217
 a232 := Tryz.isAgg217
 z232 := Tryz.sizeOf217
 v232 := Tryz.zeroValue217
 t233 := Tryz.underlying218
 a233 := Tryz.isAgg218
 z233 := Tryz.sizeOf218
 v233 := Tryz.zeroValue218
 g15 := by kernel_rfl
 g16 := by kernel_rfl
 g17 := by kernel_rfl
 g18 := by kernel_rfl
 g19 := by kernel_rfl
 t80 := Tryz.underlying126
 a80 := Tryz.isAgg126
 z80 := Tryz.sizeOf126
 v80 := Tryz.zeroValue126
 i0 := by kernel_rfl
 i2 := by kernel_rfl
 i3 := by kernel_rfl
 i4 := by kernel_rfl
 i5 := by kernel_rfl
 i9 := by kernel_rfl
 i20 := by kernel_rfl
 i37 := by kernel_rfl
 i46 := by kernel_rfl
 i51 := by kernel_rfl
 i53 := by kernel_rfl
 i75 := by kernel_rfl
 i80 := by kernel_rfl
 i127 := by kernel_rfl
 i143 := by kernel_rfl
 i145 := by kernel_rfl
 i167 := by kernel_rfl
 i168 := by kernel_rfl
 i171 := by kernel_rfl
 i173 := by kernel_rfl
 i210 := by kernel_rfl
 i212 := by kernel_rfl
 i232 := by kernel_rfl
 i233 := by kernel_rfl
 m15 := by kernel_rfl
 m16 := by kernel_rfl
 m17 := by kernel_rfl
 m18 := by kernel_rfl
 m19 := by kernel_rfl
 c0 := by kernel_rfl
 c2 := by kernel_rfl
 c3 := by kernel_rfl
 c4 := by kernel_rfl
 c5 := by kernel_rfl
 c9 := by kernel_rfl
 c20 := by kernel_rfl
 c37 := by kernel_rfl
 c46 := by kernel_rfl
 c51 := by kernel_rfl
 c53 := by kernel_rfl
 c75 := by kernel_rfl
 c80 := by kernel_rfl
 c127 := by kernel_rfl
 c143 := by kernel_rfl
 c145 := by kernel_rfl
 c167 := by kernel_rfl
 c168 := by kernel_rfl
 c171 := by kernel_rfl
 c173 := by kernel_rfl
 c210 := by kernel_rfl
 c212 := by kernel_rfl
 c213 := by kernel_rfl
 c232 := by kernel_rfl
 c233 := by kernel_rfl }
open Go.RowKit in
theorem Tryz.strconv_toError_syntax (fn s : ByteArray) (base bits : Int) (ev : Value) (w : World) (hlim : s.size ≤ 281474976710656) (hv : w.cell? ⟨3, 0, none⟩ = some ev) (hev : ev = .nilIface ∨ ∃ te pe, ev = .iface te pe) :
 Calls Tryz.prog 132 #[.string fn, .string s, .int .i64 base, .int .i64 bits, .iface 187 (.int .i64 2)] w fun e w' => ∃ N, e = .returned (.iface 189 (.pointer (some ⟨N, 0, none⟩))) ∧ w.heap.size ≤ N ∧ w'.heap[N]? = some (.cells #[.string fn, .string s, ev] 200 (0, 0)) ∧ Below w.heap.size w w' := Any.strconv_toError_syntax Tryz.laysC245 fn s base bits ev w hlim hv hev
def Tryz.lays321_ren : Go.Shelf.Ren := ⟨fun | 321 => 153 | n => n, fun | 5 => 5 | n => n, fun | n => n⟩
theorem Tryz.lays321 : Go.Proofs.Lays.n321 Tryz.prog Tryz.lays321_ren := {
 mixed := by kernel_rfl
 f321 := Tryz.func153.trans (congrArg some (by kernel_rfl))
 t5 := Tryz.underlying5
 a5 := Tryz.isAgg5
 z5 := Tryz.sizeOf5
 v5 := Tryz.zeroValue5 }
open Go.RowKit in
theorem Tryz.internal_strconv_lower (c : Int) (w : World) :
 Calls Tryz.prog 153 #[.int .u8 c] w fun e w' => e = .returned (.int .u8 (bits .or .u8 c 32)) ∧ w' = w := Any.internal_strconv_lower Tryz.lays321 c w
def Tryz.lays287_ren : Go.Shelf.Ren := ⟨fun | 287 => 131 | 321 => 153 | 322 => 154 | n => n, fun | 9 => 9 | 3 => 3 | 53 => 24 | 75 => 123 | 4 => 4 | 167 => 187 | 5 => 5 | 46 => 70 | 37 => 118 | 0 => 0 | 21 => 21 | 80 => 126 | n => n, fun | n => n⟩
theorem Tryz.lays287 : Go.Proofs.Lays.n287 Tryz.prog Tryz.lays287_ren := {
 mixed := by kernel_rfl
 f287 := Tryz.func131.trans (congrArg some (by kernel_rfl))
 f321 := Tryz.func153.trans (congrArg some (by kernel_rfl))
 f322 := Tryz.func154.trans (congrArg some (by kernel_rfl))
 t0 := Tryz.underlying0
 a0 := Tryz.isAgg0
 z0 := Tryz.sizeOf0
 v0 := Tryz.zeroValue0
 t3 := Tryz.underlying3
 a3 := Tryz.isAgg3
 z3 := Tryz.sizeOf3
 v3 := Tryz.zeroValue3
 t4 := Tryz.underlying4
 a4 := Tryz.isAgg4
 z4 := Tryz.sizeOf4
 v4 := Tryz.zeroValue4
 t5 := Tryz.underlying5
 a5 := Tryz.isAgg5
 z5 := Tryz.sizeOf5
 v5 := Tryz.zeroValue5
 t9 := Tryz.underlying9
 a9 := Tryz.isAgg9
 z9 := Tryz.sizeOf9
 v9 := Tryz.zeroValue9
 t21 := Tryz.underlying21
 a21 := Tryz.isAgg21
 z21 := Tryz.sizeOf21
 v21 := Tryz.zeroValue21
 t37 := Tryz.underlying118
 a37 := Tryz.isAgg118
 z37 := Tryz.sizeOf118
 v37 := Tryz.zeroValue118
 t46 := Tryz.underlying70
 a46 := Tryz.isAgg70
 z46 := Tryz.sizeOf70
 v46 := Tryz.zeroValue70
 t53 := Tryz.underlying24
 a53 := Tryz.isAgg24
 z53 := Tryz.sizeOf24
 v53 := Tryz.zeroValue24
 t75 := Tryz.underlying123
 a75 := Tryz.isAgg123
 z75 := Tryz.sizeOf123
 v75 := Tryz.zeroValue123
 t167 := Tryz.underlying187
 a167 := Tryz.isAgg187
 z167 := Tryz.sizeOf187
 v167 := Tryz.zeroValue187 }
open Go.RowKit in
theorem Tryz.strconv_toError_range (fn s : ByteArray) (base bits : Int) (ev : Value) (w : World) (hlim : s.size ≤ 281474976710656) (hv : w.cell? ⟨4, 0, none⟩ = some ev) (hev : ev = .nilIface ∨ ∃ te pe, ev = .iface te pe) :
 Calls Tryz.prog 132 #[.string fn, .string s, .int .i64 base, .int .i64 bits, .iface 187 (.int .i64 1)] w fun e w' => ∃ N, e = .returned (.iface 189 (.pointer (some ⟨N, 0, none⟩))) ∧ w.heap.size ≤ N ∧ w'.heap[N]? = some (.cells #[.string fn, .string s, ev] 200 (0, 0)) ∧ Below w.heap.size w w' := Any.strconv_toError_range Tryz.laysC245 fn s base bits ev w hlim hv hev
open Go.RowKit in
theorem Tryz.internal_strconv_ParseUint_empty (base bits : Int) (w : World) :
 Calls Tryz.prog 131 #[.string ⟨#[]⟩, .int .i64 base, .int .i64 bits] w fun e w' => e = .returned (.tuple #[.int .u64 0, .iface 187 (.int .i64 2)]) ∧ w' = w := Any.internal_strconv_ParseUint_empty Tryz.lays287 base bits w
def Tryz.laysPu14_ren : Go.Shelf.Ren := ⟨fun | 14 => 96 | 16 => 131 | 17 => 132 | 19 => 153 | 20 => 154 | 21 => 155 | 22 => 156 | 23 => 157 | 24 => 158 | 25 => 167 | 27 => 77 | 26 => 168 | 28 => 117 | 29 => 141 | 30 => 159 | 31 => 160 | 32 => 161 | 33 => 162 | 35 => 170 | 34 => 169 | 36 => 171 | 37 => 172 | 38 => 173 | 39 => 175 | 40 => 176 | n => n, fun | 9 => 9 | 3 => 3 | 22 => 24 | 24 => 123 | 25 => 130 | 4 => 4 | 34 => 187 | 5 => 5 | 36 => 70 | 37 => 118 | 0 => 0 | 39 => 189 | 21 => 21 | 44 => 200 | 47 => 159 | 50 => 214 | 48 => 212 | 2 => 2 | 52 => 192 | 55 => 195 | 59 => 203 | 60 => 69 | 20 => 20 | 61 => 204 | 65 => 217 | 66 => 218 | 67 => 126 | n => n, fun | 0 => 3 | 1 => 4 | 2 => 5 | 3 => 8 | 4 => 9 | n => n⟩
theorem Tryz.laysPu14 : Go.Proofs.LaysPu.n14 Tryz.prog Tryz.laysPu14_ren := {
 mixed := by kernel_rfl
 f14 := Tryz.func96.trans (congrArg some (by kernel_rfl))
 f16 := Tryz.func131.trans (congrArg some (by kernel_rfl))
 f17 := Tryz.func132.trans (congrArg some (by kernel_rfl))
 f19 := Tryz.func153.trans (congrArg some (by kernel_rfl))
 f20 := Tryz.func154.trans (congrArg some (by kernel_rfl))
 f21 := Tryz.func155.trans (congrArg some (by kernel_rfl))
 f22 := Tryz.func156.trans (congrArg some (by kernel_rfl))
 f23 := Tryz.func157.trans (congrArg some (by kernel_rfl))
 f24 := Tryz.func158.trans (congrArg some (by kernel_rfl))
 f25 := Tryz.func167.trans (congrArg some (by kernel_rfl))
 f26 := Tryz.func168.trans (congrArg some (by kernel_rfl))
 f27 := Tryz.func77.trans (congrArg some (by kernel_rfl))
 f28 := Tryz.func117.trans (congrArg some (by kernel_rfl))
 f29 := Tryz.func141.trans (congrArg some (by kernel_rfl))
 f30 := Tryz.func159.trans (congrArg some (by kernel_rfl))
 f31 := Tryz.func160.trans (congrArg some (by kernel_rfl))
 f32 := Tryz.func161.trans (congrArg some (by kernel_rfl))
 f33 := Tryz.func162.trans (congrArg some (by kernel_rfl))
 f34 := Tryz.func169.trans (congrArg some (by kernel_rfl))
 f35 := Tryz.func170.trans (congrArg some (by kernel_rfl))
 f36 := Tryz.func171.trans (congrArg some (by kernel_rfl))
 f37 := Tryz.func172.trans (congrArg some (by kernel_rfl))
 f38 := Tryz.func173.trans (congrArg some (by kernel_rfl))
 f39 := Tryz.func175.trans (congrArg some (by kernel_rfl))
 f40 := Tryz.func176.trans (congrArg some (by kernel_rfl))
 t0 := Tryz.underlying0
 a0 := Tryz.isAgg0
 z0 := Tryz.sizeOf0
 v0 := Tryz.zeroValue0
 i0 := by kernel_rfl
 t2 := Tryz.underlying2
 a2 := Tryz.isAgg2
 z2 := Tryz.sizeOf2
 v2 := Tryz.zeroValue2
 i2 := by kernel_rfl
 t3 := Tryz.underlying3
 a3 := Tryz.isAgg3
 z3 := Tryz.sizeOf3
 v3 := Tryz.zeroValue3
 i3 := by kernel_rfl
 t4 := Tryz.underlying4
 a4 := Tryz.isAgg4
 z4 := Tryz.sizeOf4
 v4 := Tryz.zeroValue4
 i4 := by kernel_rfl
 t5 := Tryz.underlying5
 a5 := Tryz.isAgg5
 z5 := Tryz.sizeOf5
 v5 := Tryz.zeroValue5
 i5 := by kernel_rfl
 t9 := Tryz.underlying9
 a9 := Tryz.isAgg9
 z9 := Tryz.sizeOf9
 v9 := Tryz.zeroValue9
 i9 := by kernel_rfl
 t20 := Tryz.underlying20
 a20 := Tryz.isAgg20
 z20 := Tryz.sizeOf20
 v20 := Tryz.zeroValue20
 i20 := by kernel_rfl
 t21 := Tryz.underlying21
 a21 := Tryz.isAgg21
 z21 := Tryz.sizeOf21
 v21 := Tryz.zeroValue21
 i21 := by kernel_rfl
 t22 := Tryz.underlying24
 a22 := Tryz.isAgg24
 z22 := Tryz.sizeOf24
 v22 := Tryz.zeroValue24
 i22 := by kernel_rfl
 t24 := Tryz.underlying123
 a24 := Tryz.isAgg123
 z24 := Tryz.sizeOf123
 v24 := Tryz.zeroValue123
 i24 := by kernel_rfl
 t25 := Tryz.underlying130
 a25 := Tryz.isAgg130
 z25 := Tryz.sizeOf130
 v25 := Tryz.zeroValue130
 i25 := by kernel_rfl
 t34 := Tryz.underlying187
 a34 := Tryz.isAgg187
 z34 := Tryz.sizeOf187
 v34 := Tryz.zeroValue187
 i34 := by kernel_rfl
 c34 := by kernel_rfl
 t36 := Tryz.underlying70
 a36 := Tryz.isAgg70
 z36 := Tryz.sizeOf70
 v36 := Tryz.zeroValue70
 i36 := by kernel_rfl
 t37 := Tryz.underlying118
 a37 := Tryz.isAgg118
 z37 := Tryz.sizeOf118
 v37 := Tryz.zeroValue118
 i37 := by kernel_rfl
 t39 := Tryz.underlying189
 a39 := Tryz.isAgg189
 z39 := Tryz.sizeOf189
 v39 := Tryz.zeroValue189
 i39 := by kernel_rfl
 t44 := Tryz.underlying200
 a44 := Tryz.isAgg200
 z44 := Tryz.sizeOf200
 v44 := Tryz.zeroValue200
 i44 := by kernel_rfl
 t47 := Tryz.underlying159
 a47 := Tryz.isAgg159
 z47 := Tryz.sizeOf159
 v47 := Tryz.zeroValue159
 i47 := by kernel_rfl
 t48 := Tryz.underlying212
 a48 := Tryz.isAgg212
 z48 := Tryz.sizeOf212
 v48 := Tryz.zeroValue212
 i48 := by kernel_rfl
 t50 := Tryz.underlying214
 a50 := Tryz.isAgg214
 z50 := Tryz.sizeOf214
 v50 := Tryz.zeroValue214
 i50 := by kernel_rfl
 t52 := Tryz.underlying192
 a52 := Tryz.isAgg192
 z52 := Tryz.sizeOf192
 v52 := Tryz.zeroValue192
 i52 := by kernel_rfl
 t55 := Tryz.underlying195
 a55 := Tryz.isAgg195
 z55 := Tryz.sizeOf195
 v55 := Tryz.zeroValue195
 i55 := by kernel_rfl
 t59 := Tryz.underlying203
 a59 := Tryz.isAgg203
 z59 := Tryz.sizeOf203
 v59 := Tryz.zeroValue203
 i59 := by kernel_rfl
 t60 := Tryz.underlying69
 a60 := Tryz.isAgg69
 z60 := Tryz.sizeOf69
 v60 := Tryz.zeroValue69
 i60 := by kernel_rfl
 t61 := Tryz.underlying204
 a61 := Tryz.isAgg204
 z61 := Tryz.sizeOf204
 t65 := Tryz.underlying217
 a65 := Tryz.isAgg217
 z65 := Tryz.sizeOf217
 v65 := Tryz.zeroValue217
 i65 := by kernel_rfl
 t66 := Tryz.underlying218
 a66 := Tryz.isAgg218
 z66 := Tryz.sizeOf218
 v66 := Tryz.zeroValue218
 i66 := by kernel_rfl
 t67 := Tryz.underlying126
 a67 := Tryz.isAgg126
 z67 := Tryz.sizeOf126
 v67 := Tryz.zeroValue126
 i67 := by kernel_rfl
 g0 := by kernel_rfl
 m0 := by kernel_rfl
 g1 := by kernel_rfl
 m1 := by kernel_rfl
 g2 := by kernel_rfl
 m2 := by kernel_rfl
 g3 := by kernel_rfl
 m3 := by kernel_rfl
 g4 := by kernel_rfl
 m4 := by kernel_rfl }
open Go.RowKit in
theorem Tryz.strconv_ParseUint_10_at8_ok (s : ByteArray) (hmax : s.size ≤ 9223372036854775806) (u : Nat) (h : Lib.parseUintB 8 s.data.toList = .ok u) (w : World) :
 Calls Tryz.prog 96 #[.string s, .int .i64 10, .int .i64 8] w fun e w' => e = .returned (.tuple #[.int .u64 u, .nilIface]) ∧ (w' = w ∨ w' = Lib.bytesWorld w 5 s) := Any.strconv_ParseUint_10_at8_ok Tryz.laysPu14 s hmax u h w
open Go.RowKit in
theorem Tryz.strconv_ParseUint_10_at8_syntax_var (s : ByteArray) (hlim : s.size ≤ 281474976710656) (h : Lib.parseUintB 8 s.data.toList = .«syntax») (tp : TypeId) (p : Value) (w : World) (hvar : w.var? Tryz.prog "strconv.ErrSyntax" = some #[.iface tp p]) :
 Calls Tryz.prog 96 #[.string s, .int .i64 10, .int .i64 8] w fun e w' => ∃ N, e = .returned (.tuple #[.int .u64 0, .iface 189 (.pointer (some ⟨N, 0, none⟩))]) ∧ w.heap.size ≤ N ∧ w'.heap[N]? = some (.cells #[.string ⟨#[80, 97, 114, 115, 101, 85, 105, 110, 116]⟩, .string s, .iface tp p] 200 (0, 0)) ∧ Below w.heap.size w w' := Any.strconv_ParseUint_10_at8_syntax_var Tryz.laysPu14 s hlim h tp p w hvar
open Go.RowKit in
theorem Tryz.strconv_ParseUint_10_at8_range_var (s : ByteArray) (hlim : s.size ≤ 281474976710656) (h : Lib.parseUintB 8 s.data.toList = .range) (tp : TypeId) (p : Value) (w : World) (hvar : w.var? Tryz.prog "strconv.ErrRange" = some #[.iface tp p]) :
 Calls Tryz.prog 96 #[.string s, .int .i64 10, .int .i64 8] w fun e w' => ∃ N, e = .returned (.tuple #[.int .u64 255, .iface 189 (.pointer (some ⟨N, 0, none⟩))]) ∧ w.heap.size ≤ N ∧ w'.heap[N]? = some (.cells #[.string ⟨#[80, 97, 114, 115, 101, 85, 105, 110, 116]⟩, .string s, .iface tp p] 200 (0, 0)) ∧ Below w.heap.size w w' := Any.strconv_ParseUint_10_at8_range_var Tryz.laysPu14 s hlim h tp p w hvar
def Tryz.lays219_ren : Go.Shelf.Ren := ⟨fun | 219 => 95 | 217 => 127 | 225 => 128 | 224 => 129 | 267 => 130 | 266 => 151 | 314 => 152 | n => n, fun | 9 => 9 | 3 => 3 | 4 => 4 | 5 => 5 | 46 => 70 | 146 => 185 | 51 => 69 | n => n, fun | 1 => 0 | n => n⟩
theorem Tryz.lays219 : Go.Proofs.Lays.n219 Tryz.prog Tryz.lays219_ren := {
 mixed := by kernel_rfl
 f217 := Tryz.func127.trans (congrArg some (by kernel_rfl))
 f219 := Tryz.func95.trans (congrArg some (by kernel_rfl))
 f224 := Tryz.func129.trans (congrArg some (by kernel_rfl))
 f225 := Tryz.func128.trans (congrArg some (by kernel_rfl))
 f266 := Tryz.func151.trans (congrArg some (by kernel_rfl))
 f267 := Tryz.func130.trans (congrArg some (by kernel_rfl))
 f314 := Tryz.func152.trans (congrArg some (by kernel_rfl))
 t3 := Tryz.underlying3
 a3 := Tryz.isAgg3
 z3 := Tryz.sizeOf3
 v3 := Tryz.zeroValue3
 t4 := Tryz.underlying4
 a4 := Tryz.isAgg4
 z4 := Tryz.sizeOf4
 v4 := Tryz.zeroValue4
 t5 := Tryz.underlying5
 a5 := Tryz.isAgg5
 z5 := Tryz.sizeOf5
 v5 := Tryz.zeroValue5
 t9 := Tryz.underlying9
 a9 := Tryz.isAgg9
 z9 := Tryz.sizeOf9
 v9 := Tryz.zeroValue9
 t46 := Tryz.underlying70
 a46 := Tryz.isAgg70
 z46 := Tryz.sizeOf70
 v46 := Tryz.zeroValue70
 t51 := Tryz.underlying69
 a51 := Tryz.isAgg69
 z51 := Tryz.sizeOf69
 v51 := Tryz.zeroValue69
 t146 := Tryz.underlying185
 a146 := Tryz.isAgg185
 z146 := Tryz.sizeOf185
 v146 := Tryz.zeroValue185
 g1 := by kernel_rfl }
open Go.RowKit Go.Lib in
theorem Tryz.stringslite_Index_one (s : ByteArray) (c : UInt8) (w : World) :
 Calls Tryz.prog 95 #[.string s, .string ⟨#[c]⟩] w fun e w' => e = .returned (.int .i64 (Lib.indexByte s.data.toList c)) ∧ w' = w := Any.stringslite_Index_one Tryz.lays219 s c w
def Tryz.lays145_ren : Go.Shelf.Ren := ⟨fun | 145 => 21 | 220 => 52 | 219 => 95 | 217 => 127 | 225 => 128 | 224 => 129 | 267 => 130 | 266 => 151 | 314 => 152 | n => n, fun | 9 => 9 | 4 => 4 | 59 => 48 | 3 => 3 | 5 => 5 | 46 => 70 | 146 => 185 | 51 => 69 | n => n, fun | 1 => 0 | n => n⟩
theorem Tryz.lays145 : Go.Proofs.Lays.n145 Tryz.prog Tryz.lays145_ren := {
 mixed := by kernel_rfl
 f145 := Tryz.func21.trans (congrArg some (by kernel_rfl))
 f217 := Tryz.func127.trans (congrArg some (by kernel_rfl))
 f219 := Tryz.func95.trans (congrArg some (by kernel_rfl))
 f220 := Tryz.func52.trans (congrArg some (by kernel_rfl))
 f224 := Tryz.func129.trans (congrArg some (by kernel_rfl))
 f225 := Tryz.func128.trans (congrArg some (by kernel_rfl))
 f266 := Tryz.func151.trans (congrArg some (by kernel_rfl))
 f267 := Tryz.func130.trans (congrArg some (by kernel_rfl))
 f314 := Tryz.func152.trans (congrArg some (by kernel_rfl))
 t3 := Tryz.underlying3
 a3 := Tryz.isAgg3
 z3 := Tryz.sizeOf3
 v3 := Tryz.zeroValue3
 t4 := Tryz.underlying4
 a4 := Tryz.isAgg4
 z4 := Tryz.sizeOf4
 v4 := Tryz.zeroValue4
 t5 := Tryz.underlying5
 a5 := Tryz.isAgg5
 z5 := Tryz.sizeOf5
 v5 := Tryz.zeroValue5
 t9 := Tryz.underlying9
 a9 := Tryz.isAgg9
 z9 := Tryz.sizeOf9
 v9 := Tryz.zeroValue9
 t46 := Tryz.underlying70
 a46 := Tryz.isAgg70
 z46 := Tryz.sizeOf70
 v46 := Tryz.zeroValue70
 t51 := Tryz.underlying69
 a51 := Tryz.isAgg69
 z51 := Tryz.sizeOf69
 v51 := Tryz.zeroValue69
 t59 := Tryz.underlying48
 a59 := Tryz.isAgg48
 z59 := Tryz.sizeOf48
 v59 := Tryz.zeroValue48
 t146 := Tryz.underlying185
 a146 := Tryz.isAgg185
 z146 := Tryz.sizeOf185
 v146 := Tryz.zeroValue185
 g1 := by kernel_rfl }
open Go.RowKit Go.Lib in
theorem Tryz.strings_Cut (s sep : ByteArray) (m : Int) (w : World) (hs : s.size < 4294967281) (hm : w.cell? ⟨0, 0, none⟩ = some (.int .i64 m)) :
 Calls Tryz.prog 21 #[.string s, .string sep] w fun e w' => e = .returned (.tuple #[.string ⟨(Lib.cut s.data.toList sep.data.toList).1.toArray⟩, .string ⟨(Lib.cut s.data.toList sep.data.toList).2.1.toArray⟩, .bool (Lib.cut s.data.toList sep.data.toList).2.2]) ∧ ∃ n, w' = w.drewN n := Any.strings_Cut Tryz.lays145 s sep m w hs hm
def Tryz.lays138_ren : Go.Shelf.Ren := ⟨fun | 138 => 48 | 195 => 91 | 218 => 92 | 143 => 93 | 219 => 95 | 217 => 127 | 225 => 128 | 224 => 129 | 267 => 130 | 266 => 151 | 314 => 152 | n => n, fun | 9 => 9 | 3 => 3 | 4 => 4 | 5 => 5 | 0 => 0 | 46 => 70 | 146 => 185 | 51 => 69 | n => n, fun | 1 => 0 | n => n⟩
theorem Tryz.lays138 : Go.Proofs.Lays.n138 Tryz.prog Tryz.lays138_ren := {
 mixed := by kernel_rfl
 f138 := Tryz.func48.trans (congrArg some (by kernel_rfl))
 f143 := Tryz.func93.trans (congrArg some (by kernel_rfl))
 f195 := Tryz.func91.trans (congrArg some (by kernel_rfl))
 f217 := Tryz.func127.trans (congrArg some (by kernel_rfl))
 f218 := Tryz.func92.trans (congrArg some (by kernel_rfl))
 f219 := Tryz.func95.trans (congrArg some (by kernel_rfl))
 f224 := Tryz.func129.trans (congrArg some (by kernel_rfl))
 f225 := Tryz.func128.trans (congrArg some (by kernel_rfl))
 f266 := Tryz.func151.trans (congrArg some (by kernel_rfl))
 f267 := Tryz.func130.trans (congrArg some (by kernel_rfl))
 f314 := Tryz.func152.trans (congrArg some (by kernel_rfl))
 t0 := Tryz.underlying0
 a0 := Tryz.isAgg0
 z0 := Tryz.sizeOf0
 v0 := Tryz.zeroValue0
 t3 := Tryz.underlying3
 a3 := Tryz.isAgg3
 z3 := Tryz.sizeOf3
 v3 := Tryz.zeroValue3
 t4 := Tryz.underlying4
 a4 := Tryz.isAgg4
 z4 := Tryz.sizeOf4
 v4 := Tryz.zeroValue4
 t5 := Tryz.underlying5
 a5 := Tryz.isAgg5
 z5 := Tryz.sizeOf5
 v5 := Tryz.zeroValue5
 t9 := Tryz.underlying9
 a9 := Tryz.isAgg9
 z9 := Tryz.sizeOf9
 v9 := Tryz.zeroValue9
 t46 := Tryz.underlying70
 a46 := Tryz.isAgg70
 z46 := Tryz.sizeOf70
 v46 := Tryz.zeroValue70
 t51 := Tryz.underlying69
 a51 := Tryz.isAgg69
 z51 := Tryz.sizeOf69
 v51 := Tryz.zeroValue69
 t146 := Tryz.underlying185
 a146 := Tryz.isAgg185
 z146 := Tryz.sizeOf185
 v146 := Tryz.zeroValue185
 g1 := by kernel_rfl }
open Go.RowKit Go.Lib in
theorem Tryz.strings_Count_one (s : ByteArray) (c : UInt8) (w : World) :
 Calls Tryz.prog 48 #[.string s, .string ⟨#[c]⟩] w fun e w' => e = .returned (.int .i64 (Lib.countByte s.data.toList c)) ∧ w' = w := Any.strings_Count_one Tryz.lays138 s c w
def Tryz.laysM145_ren : Go.Shelf.Ren := ⟨fun | 145 => 21 | 220 => 52 | 219 => 95 | 217 => 127 | 225 => 128 | 224 => 129 | 267 => 130 | 266 => 151 | 314 => 152 | n => n, fun | 9 => 9 | 4 => 4 | 59 => 48 | 3 => 3 | 5 => 5 | 46 => 70 | 146 => 185 | 51 => 69 | n => n, fun | 1 => 0 | n => n⟩
theorem Tryz.laysM145 : Go.Proofs.LaysM.n145 Tryz.prog Tryz.laysM145_ren := {
 mixed := by kernel_rfl
 f145 := Tryz.func21.trans (congrArg some (by kernel_rfl))
 f217 := Tryz.func127.trans (congrArg some (by kernel_rfl))
 f219 := Tryz.func95.trans (congrArg some (by kernel_rfl))
 f220 := Tryz.func52.trans (congrArg some (by kernel_rfl))
 f224 := Tryz.func129.trans (congrArg some (by kernel_rfl))
 f225 := Tryz.func128.trans (congrArg some (by kernel_rfl))
 f266 := Tryz.func151.trans (congrArg some (by kernel_rfl))
 f267 := Tryz.func130.trans (congrArg some (by kernel_rfl))
 f314 := Tryz.func152.trans (congrArg some (by kernel_rfl))
 t3 := Tryz.underlying3
 a3 := Tryz.isAgg3
 z3 := Tryz.sizeOf3
 v3 := Tryz.zeroValue3
 t4 := Tryz.underlying4
 a4 := Tryz.isAgg4
 z4 := Tryz.sizeOf4
 v4 := Tryz.zeroValue4
 t5 := Tryz.underlying5
 a5 := Tryz.isAgg5
 z5 := Tryz.sizeOf5
 v5 := Tryz.zeroValue5
 t9 := Tryz.underlying9
 a9 := Tryz.isAgg9
 z9 := Tryz.sizeOf9
 v9 := Tryz.zeroValue9
 t46 := Tryz.underlying70
 a46 := Tryz.isAgg70
 z46 := Tryz.sizeOf70
 v46 := Tryz.zeroValue70
 t51 := Tryz.underlying69
 a51 := Tryz.isAgg69
 z51 := Tryz.sizeOf69
 v51 := Tryz.zeroValue69
 t59 := Tryz.underlying48
 a59 := Tryz.isAgg48
 z59 := Tryz.sizeOf48
 v59 := Tryz.zeroValue48
 t146 := Tryz.underlying185
 a146 := Tryz.isAgg185
 z146 := Tryz.sizeOf185
 v146 := Tryz.zeroValue185
 g1 := by kernel_rfl
 i3 := by kernel_rfl
 i4 := by kernel_rfl
 i5 := by kernel_rfl
 i9 := by kernel_rfl
 i46 := by kernel_rfl
 i51 := by kernel_rfl
 i59 := by kernel_rfl
 i146 := by kernel_rfl
 m1 := by kernel_rfl
 s1_3 := fun w h => Go.Proofs.cell_of_shapedOpen_int (zero := #[.int .i64 0]) (t := 3) h (of_decide_eq_true (by kernel_rfl)) (by kernel_rfl) rfl (by kernel_rfl) (by kernel_rfl) Tryz.underlying3 }
def Tryz.lays221_ren : Go.Shelf.Ren := ⟨fun | 221 => 94 | 268 => 126 | 138 => 48 | 143 => 93 | 195 => 91 | 197 => 150 | 218 => 92 | 219 => 95 | 260 => 166 | 217 => 127 | 225 => 128 | 224 => 129 | 267 => 130 | 266 => 151 | 314 => 152 | n => n, fun | 9 => 9 | 3 => 3 | 31 => 77 | 4 => 4 | 0 => 0 | 105 => 183 | 21 => 21 | 5 => 5 | 46 => 70 | 119 => 208 | 139 => 211 | 138 => 210 | 146 => 185 | 51 => 69 | n => n, fun | 1 => 0 | 3 => 6 | 4 => 7 | n => n⟩
def Tryz.lays146_ren : Go.Shelf.Ren := ⟨fun | 146 => 49 | 221 => 94 | 268 => 126 | 138 => 48 | 143 => 93 | 195 => 91 | 197 => 150 | 218 => 92 | 219 => 95 | 260 => 166 | 217 => 127 | 225 => 128 | 224 => 129 | 267 => 130 | 266 => 151 | 314 => 152 | n => n, fun | 9 => 9 | 31 => 77 | 3 => 3 | 4 => 4 | 0 => 0 | 105 => 183 | 21 => 21 | 5 => 5 | 46 => 70 | 119 => 208 | 139 => 211 | 138 => 210 | 146 => 185 | 51 => 69 | n => n, fun | 1 => 0 | 3 => 6 | 4 => 7 | n => n⟩
theorem Tryz.lays146 : Go.Proofs.Lays.n146 Tryz.prog Tryz.lays146_ren := {
 mixed := by kernel_rfl
 f138 := Tryz.func48.trans (congrArg some (by kernel_rfl))
 f143 := Tryz.func93.trans (congrArg some (by kernel_rfl))
 f146 := Tryz.func49.trans (congrArg some (by kernel_rfl))
 f195 := Tryz.func91.trans (congrArg some (by kernel_rfl))
 f197 := Tryz.func150.trans (congrArg some (by kernel_rfl))
 f217 := Tryz.func127.trans (congrArg some (by kernel_rfl))
 f218 := Tryz.func92.trans (congrArg some (by kernel_rfl))
 f219 := Tryz.func95.trans (congrArg some (by kernel_rfl))
 f221 := Tryz.func94.trans (congrArg some (by kernel_rfl))
 f224 := Tryz.func129.trans (congrArg some (by kernel_rfl))
 f225 := Tryz.func128.trans (congrArg some (by kernel_rfl))
 f260 := Tryz.func166.trans (congrArg some (by kernel_rfl))
 f266 := Tryz.func151.trans (congrArg some (by kernel_rfl))
 f267 := Tryz.func130.trans (congrArg some (by kernel_rfl))
 f268 := Tryz.func126.trans (congrArg some (by kernel_rfl))
 f314 := Tryz.func152.trans (congrArg some (by kernel_rfl))
 t0 := Tryz.underlying0
 a0 := Tryz.isAgg0
 z0 := Tryz.sizeOf0
 v0 := Tryz.zeroValue0
 t3 := Tryz.underlying3
 a3 := Tryz.isAgg3
 z3 := Tryz.sizeOf3
 v3 := Tryz.zeroValue3
 t4 := Tryz.underlying4
 a4 := Tryz.isAgg4
 z4 := Tryz.sizeOf4
 v4 := Tryz.zeroValue4
 t5 := Tryz.underlying5
 a5 := Tryz.isAgg5
 z5 := Tryz.sizeOf5
 v5 := Tryz.zeroValue5
 t9 := Tryz.underlying9
 a9 := Tryz.isAgg9
 z9 := Tryz.sizeOf9
 v9 := Tryz.zeroValue9
 t21 := Tryz.underlying21
 a21 := Tryz.isAgg21
 z21 := Tryz.sizeOf21
 v21 := Tryz.zeroValue21
 t31 := Tryz.underlying77
 a31 := Tryz.isAgg77
 z31 := Tryz.sizeOf77
 v31 := Tryz.zeroValue77
 t46 := Tryz.underlying70
 a46 := Tryz.isAgg70
 z46 := Tryz.sizeOf70
 v46 := Tryz.zeroValue70
 t51 := Tryz.underlying69
 a51 := Tryz.isAgg69
 z51 := Tryz.sizeOf69
 v51 := Tryz.zeroValue69
 t105 := Tryz.underlying183
 a105 := Tryz.isAgg183
 z105 := Tryz.sizeOf183
 v105 := Tryz.zeroValue183
 t119 := Tryz.underlying208
 a119 := Tryz.isAgg208
 z119 := Tryz.sizeOf208
 t138 := Tryz.underlying210
 a138 := Tryz.isAgg210
 z138 := Tryz.sizeOf210
 v138 := Tryz.zeroValue210
 t139 := Tryz.underlying211
 a139 := Tryz.isAgg211
 z139 := Tryz.sizeOf211
 v139 := Tryz.zeroValue211
 t146 := Tryz.underlying185
 a146 := Tryz.isAgg185
 z146 := Tryz.sizeOf185
 v146 := Tryz.zeroValue185
 g1 := by kernel_rfl
 g3 := by kernel_rfl
 g4 := by kernel_rfl }
open Go.RowKit Go.Lib in
theorem Tryz.strings_Split (s sep : ByteArray) (m : Int) (w : World) (hs : s.size < 4294967281) (hm : w.cell? ⟨0, 0, none⟩ = some (.int .i64 m)) (h1 : 1 ≤ sep.size) :
 Calls Tryz.prog 49 #[.string s, .string sep] w fun e w' =>
  e = .returned (.slice (some ⟨w.heap.size, 0, none⟩) (Lib.countB s sep + 1) (Lib.countB s sep + 1)) ∧ w' = w.alloc (.cells ((Lib.splitB sep 0 (Lib.countB s sep) s).map Value.string).toArray 9) := Any.strings_Split Tryz.lays146 (by kernel_rfl) s sep m w hs hm h1
end Go.Proofs
