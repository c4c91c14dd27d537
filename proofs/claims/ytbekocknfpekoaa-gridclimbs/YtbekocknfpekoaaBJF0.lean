/- F0, Shelf, Lab1, RangeN, Lab2, Lab3, Lab4, Lab5, Lab6, LabP, LabR1, RowC, Num, Num2, WideN, Num3, Num4, WideK, K0, K1, K2: what the theorem needs of these texts. No conditions beyond those that are written. -/
import Derived.WalkKit
import Derived.WalkSpells
import Derived.WalkLawsBesides
import Derived.Lib.Hide
import Derived.Deep.RegionWith
import Derived.Deep.RegionHeld3
import Derived.Laws.Rows
import Derived.Deep.MidRow
import Derived.Shelf.Small.Wraps
import Derived.Shelf.Utf8.RuneCount
import Derived.Shelf.Strings.Search1
import Derived.Shelf.Strings.Search2
import Derived.Shelf.Strings.Search3
import Derived.Shelf.Strings.Cut
import Derived.Shelf.Strings.Count
import Derived.Shelf.LaysM
import Derived.Shelf.Strings.Shaped
import Derived.Test.YtbekocknfpekoaaProg
import Derived.WalkSmall
import Derived.Lib.SmallJoins
import Derived.RangeFuncNested
import Derived.RangeFuncBound
import Derived.RangeFuncCalls
import Derived.RangeFuncLeaves
import Derived.Shelf.Abstract
import Derived.Shelf.RegionOpen
import Derived.OwnWalkIn
import Derived.TacticsInMore
import Derived.LoopNIn
import Derived.LoopIn
import Derived.Lib.Join
import Derived.OwnWalk
import Derived.Deep.AppendLies
import Derived.BigQuiet
import Derived.Deep.Fields
import Derived.ProofKit
import Derived.SizedLaws
import Derived.IntWalk
import Derived.DeepKeys
import Derived.LoopN
import Derived.Deep.DeepCutAuto
import Derived.OrdersIn
import Derived.ChangeSame
import Derived.OpenShut
import Derived.ShutString
import Derived.ChangeOld
import Derived.Below
namespace Go.Proofs.Ytbekocknfpekoaa
set_option linter.unusedVariables false
set_option linter.unusedSimpArgs false
open Go.RowKit
theorem ret_int {k : IntKind} {a b : Int} (h : a = b) : Ending.returned (.int k a) = .returned (.int k b) := by rw [h]
theorem below_step {w W w' : World} (h : Below w.heap.size w W) (hb : Below W.heap.size W w') : Below w.heap.size w w' := h.trans (hb.mono h.size)
/-- block g of the world is the row cs of type t, none of it frozen -/
def Row (w : World) (g : Nat) (cs : Array Value) (t : TypeId) : Prop := w.heap[g]? = some (.cells cs t (0, 0))

theorem Row.cell {w : World} {g : Nat} {cs : Array Value} {t : TypeId} (h : Row w g cs t) (j : Nat) : w.cell? ⟨g, j, none⟩ = cs[j]? := cell_of_row w g j cs t _ h
theorem Row.frozen {w : World} {g : Nat} {cs : Array Value} {t : TypeId} (h : Row w g cs t) (j : Nat) : w.frozen? ⟨g, j, none⟩ = false := frozen_of_row w g j cs t h
theorem Row.lt {w : World} {g : Nat} {cs : Array Value} {t : TypeId} (h : Row w g cs t) : g < w.heap.size := by
  by_cases hl : g < w.heap.size
  · exact hl
  · unfold Row at h; rw [Array.getElem?_eq_none (by omega)] at h; cases h
theorem Row.new (w : World) (cs : Array Value) (t : TypeId) : Row (w.alloc (.cells cs t)) w.heap.size cs t := heap_alloc_new w _
theorem Row.alloc {w : World} {g : Nat} {cs : Array Value} {t : TypeId} (h : Row w g cs t) (o : Obj) : Row (w.alloc o) g cs t := (Below.heap_alloc w o g h.lt).trans h
theorem Row.drew {w : World} {g : Nat} {cs : Array Value} {t : TypeId} (h : Row w g cs t) : Row w.drew g cs t := h
theorem Row.set {w : World} {g : Nat} {cs : Array Value} {t : TypeId} (h : Row w g cs t) (i : Nat) (v : Value) : Row (w.setCell ⟨g, i, none⟩ v) g (cs.setIfInBounds i v) t := heap_setCell_same w g i cs t v h
theorem Row.set_far {w : World} {g : Nat} {cs : Array Value} {t : TypeId} (h : Row w g cs t) (a : Addr) (v : Value) (hne : g ≠ a.block) : Row (w.setCell a v) g cs t := (heap_setCell_other w a g v hne).trans h
theorem Row.later {w w' : World} {g : Nat} {cs : Array Value} {t : TypeId} (h : Row w g cs t) (hb : Below w.heap.size w w') : Row w' g cs t := (hb.block g h.lt).trans h
theorem Row.below {B : Nat} {w w' : World} {g : Nat} {cs : Array Value} {t : TypeId} (h : Row w g cs t) (hb : Below B w w') (hg : g < B) : Row w' g cs t := (hb.block g hg).trans h
theorem Row.there {w : World} {g : Nat} {cs : Array Value} {t : TypeId} (h : Row w g cs t) (n : Nat) (hn : n ≤ cs.size) : w.there g 0 n := fun j hj => by
  rw [Nat.zero_add, h.cell j, h.frozen j, Array.getElem?_eq_getElem (by omega)]
  exact ⟨rfl, rfl⟩
def setL (cs : Array Value) : Nat → List Value → Array Value
  | _, [] => cs
  | o, v :: r => setL (cs.setIfInBounds o v) (o + 1) r
theorem Row.setCells {g : Nat} {t : TypeId} : ∀ (vs : List Value) (o : Nat) {w : World} {cs : Array Value}, Row w g cs t → Row (w.setCells g o vs) g (setL cs o vs) t
  | [], _, _, _, h => h
  | v :: r, o, _, _, h => Row.setCells r (o + 1) (h.set o v)
theorem setL_get : ∀ (vs : List Value) (o : Nat) (cs : Array Value) (i : Nat), o + vs.length ≤ cs.size → (setL cs o vs)[i]? = if o ≤ i ∧ i < o + vs.length then vs[i - o]? else cs[i]?
  | [], o, cs, i, _ => by rw [setL, if_neg (by simp <;> omega)]
  | v :: r, o, cs, i, h => by
    simp only [List.length_cons] at h
    rw [setL, setL_get r (o + 1) _ i (by simp; omega)]
    by_cases h1 : o + 1 ≤ i ∧ i < o + 1 + r.length
    · rw [if_pos h1, if_pos (by simp only [List.length_cons]; omega), show i - o = (i - (o + 1)) + 1 by omega, List.getElem?_cons_succ]
    · rw [if_neg h1]
      by_cases h2 : i = o
      · subst h2
        rw [if_pos (by simp only [List.length_cons]; omega), Array.getElem?_setIfInBounds_self_of_lt (by omega), Nat.sub_self]; rfl
      · rw [if_neg (by simp only [List.length_cons]; omega), Array.getElem?_setIfInBounds_ne (by omega)]
theorem setL_all (cs ds : Array Value) (h : ds.size = cs.size) : setL cs 0 ds.toList = ds := by
  apply Array.ext_getElem?
  intro i
  rw [setL_get ds.toList 0 cs i (by simp [h])]
  by_cases hi : i < ds.size
  · rw [if_pos (by simp [hi])]; simp
  · rw [if_neg (by simp; omega), Array.getElem?_eq_none (by omega), Array.getElem?_eq_none (by omega)]
theorem setCells_other {g k : Nat} (hne : k ≠ g) : ∀ (vs : List Value) (o : Nat) (w : World), (w.setCells g o vs).heap[k]? = w.heap[k]?
  | [], _, _ => rfl
  | v :: r, o, w => by rw [World.setCells, setCells_other hne r (o + 1), heap_setCell_other _ _ _ _ hne]
theorem below_setCells {B g : Nat} {a : World} (hg : B ≤ g) : ∀ (vs : List Value) (o : Nat) (w : World), Below B a w → Below B a (w.setCells g o vs)
  | [], _, _, h => h
  | v :: r, o, w, h => below_setCells hg r (o + 1) _ (h.setCell hg v)
end Go.Proofs.Ytbekocknfpekoaa
namespace Go.Proofs
open Go.Shelf
def Try.lays215_ren : Go.Shelf.Ren := ⟨fun | 215 => 89 | n => n, fun | 3 => 3 | 4 => 4 | n => n, fun | n => n⟩
def Try.lays122_ren : Go.Shelf.Ren := ⟨fun | 122 => 63 | 215 => 89 | n => n, fun | 3 => 3 | 4 => 4 | n => n, fun | n => n⟩
def Try.lays195_ren : Go.Shelf.Ren := ⟨fun | 195 => 119 | n => n, fun | 9 => 9 | 3 => 3 | 0 => 0 | 4 => 4 | n => n, fun | n => n⟩
def Try.lays217_ren : Go.Shelf.Ren := ⟨fun | 217 => 123 | 266 => 127 | n => n, fun | 9 => 9 | 5 => 5 | 3 => 3 | n => n, fun | n => n⟩
def Try.lays224_ren : Go.Shelf.Ren := ⟨fun | 224 => 125 | n => n, fun | 3 => 3 | n => n, fun | n => n⟩
def Try.lays314_ren : Go.Shelf.Ren := ⟨fun | 314 => 128 | n => n, fun | 9 => 9 | 51 => 69 | 3 => 3 | 4 => 4 | 5 => 5 | 46 => 111 | n => n, fun | n => n⟩
def Try.lays267_ren : Go.Shelf.Ren := ⟨fun | 267 => 126 | 314 => 128 | n => n, fun | 9 => 9 | 3 => 3 | 146 => 128 | 51 => 69 | 4 => 4 | 5 => 5 | 46 => 111 | n => n, fun | n => n⟩
def Try.lays219_ren : Go.Shelf.Ren := ⟨fun | 219 => 122 | 217 => 123 | 225 => 124 | 224 => 125 | 267 => 126 | 266 => 127 | 314 => 128 | n => n, fun | 9 => 9 | 3 => 3 | 4 => 4 | 5 => 5 | 46 => 111 | 146 => 128 | 51 => 69 | n => n, fun | 1 => 0 | n => n⟩
theorem Try.lays219 : Go.Proofs.Lays.n219 Try.prog Try.lays219_ren := {
  mixed := by kernel_rfl
  f217 := Try.func123.trans (congrArg some (by kernel_rfl))
  f219 := Try.func122.trans (congrArg some (by kernel_rfl))
  f224 := Try.func125.trans (congrArg some (by kernel_rfl))
  f225 := Try.func124.trans (congrArg some (by kernel_rfl))
  f266 := Try.func127.trans (congrArg some (by kernel_rfl))
  f267 := Try.func126.trans (congrArg some (by kernel_rfl))
  f314 := Try.func128.trans (congrArg some (by kernel_rfl))
  t3 := Try.underlying3
  a3 := Try.isAgg3
  z3 := Try.sizeOf3
  v3 := Try.zeroValue3
  t4 := Try.underlying4
  a4 := Try.isAgg4
  z4 := Try.sizeOf4
  v4 := Try.zeroValue4
  t5 := Try.underlying5
  a5 := Try.isAgg5
  z5 := Try.sizeOf5
  v5 := Try.zeroValue5
  t9 := Try.underlying9
  a9 := Try.isAgg9
  z9 := Try.sizeOf9
  v9 := Try.zeroValue9
  t46 := Try.underlying111
  a46 := Try.isAgg111
  z46 := Try.sizeOf111
  v46 := Try.zeroValue111
  t51 := Try.underlying69
  a51 := Try.isAgg69
  z51 := Try.sizeOf69
  v51 := Try.zeroValue69
  t146 := Try.underlying128
  a146 := Try.isAgg128
  z146 := Try.sizeOf128
  v146 := Try.zeroValue128
  g1 := by kernel_rfl }
open Go.RowKit Go.Lib in
theorem Try.stringslite_Index_one (s : ByteArray) (c : UInt8) (w : World) :
    Calls Try.prog 122 #[.string s, .string ⟨#[c]⟩] w fun e w' => e = .returned (.int .i64 (Lib.indexByte s.data.toList c)) ∧ w' = w := Any.stringslite_Index_one Try.lays219 s c w
def Try.lays143_ren : Go.Shelf.Ren := ⟨fun | 143 => 121 | 219 => 122 | 217 => 123 | 225 => 124 | 224 => 125 | 267 => 126 | 266 => 127 | 314 => 128 | n => n, fun | 9 => 9 | 3 => 3 | 4 => 4 | 5 => 5 | 46 => 111 | 146 => 128 | 51 => 69 | n => n, fun | 1 => 0 | n => n⟩
def Try.lays220_ren : Go.Shelf.Ren := ⟨fun | 220 => 118 | 219 => 122 | 217 => 123 | 225 => 124 | 224 => 125 | 267 => 126 | 266 => 127 | 314 => 128 | n => n, fun | 9 => 9 | 4 => 4 | 3 => 3 | 5 => 5 | 46 => 111 | 146 => 128 | 51 => 69 | n => n, fun | 1 => 0 | n => n⟩
def Try.lays145_ren : Go.Shelf.Ren := ⟨fun | 145 => 115 | 220 => 118 | 219 => 122 | 217 => 123 | 225 => 124 | 224 => 125 | 267 => 126 | 266 => 127 | 314 => 128 | n => n, fun | 9 => 9 | 4 => 4 | 59 => 124 | 3 => 3 | 5 => 5 | 46 => 111 | 146 => 128 | 51 => 69 | n => n, fun | 1 => 0 | n => n⟩
def Try.lays138_ren : Go.Shelf.Ren := ⟨fun | 138 => 117 | 195 => 119 | 218 => 120 | 143 => 121 | 219 => 122 | 217 => 123 | 225 => 124 | 224 => 125 | 267 => 126 | 266 => 127 | 314 => 128 | n => n, fun | 9 => 9 | 3 => 3 | 4 => 4 | 5 => 5 | 0 => 0 | 46 => 111 | 146 => 128 | 51 => 69 | n => n, fun | 1 => 0 | n => n⟩
theorem Try.lays138 : Go.Proofs.Lays.n138 Try.prog Try.lays138_ren := {
  mixed := by kernel_rfl
  f138 := Try.func117.trans (congrArg some (by kernel_rfl))
  f143 := Try.func121.trans (congrArg some (by kernel_rfl))
  f195 := Try.func119.trans (congrArg some (by kernel_rfl))
  f217 := Try.func123.trans (congrArg some (by kernel_rfl))
  f218 := Try.func120.trans (congrArg some (by kernel_rfl))
  f219 := Try.func122.trans (congrArg some (by kernel_rfl))
  f224 := Try.func125.trans (congrArg some (by kernel_rfl))
  f225 := Try.func124.trans (congrArg some (by kernel_rfl))
  f266 := Try.func127.trans (congrArg some (by kernel_rfl))
  f267 := Try.func126.trans (congrArg some (by kernel_rfl))
  f314 := Try.func128.trans (congrArg some (by kernel_rfl))
  t0 := Try.underlying0
  a0 := Try.isAgg0
  z0 := Try.sizeOf0
  v0 := Try.zeroValue0
  t3 := Try.underlying3
  a3 := Try.isAgg3
  z3 := Try.sizeOf3
  v3 := Try.zeroValue3
  t4 := Try.underlying4
  a4 := Try.isAgg4
  z4 := Try.sizeOf4
  v4 := Try.zeroValue4
  t5 := Try.underlying5
  a5 := Try.isAgg5
  z5 := Try.sizeOf5
  v5 := Try.zeroValue5
  t9 := Try.underlying9
  a9 := Try.isAgg9
  z9 := Try.sizeOf9
  v9 := Try.zeroValue9
  t46 := Try.underlying111
  a46 := Try.isAgg111
  z46 := Try.sizeOf111
  v46 := Try.zeroValue111
  t51 := Try.underlying69
  a51 := Try.isAgg69
  z51 := Try.sizeOf69
  v51 := Try.zeroValue69
  t146 := Try.underlying128
  a146 := Try.isAgg128
  z146 := Try.sizeOf128
  v146 := Try.zeroValue128
  g1 := by kernel_rfl }
open Go.RowKit Go.Lib in
theorem Try.strings_Count_one (s : ByteArray) (c : UInt8) (w : World) :
    Calls Try.prog 117 #[.string s, .string ⟨#[c]⟩] w fun e w' => e = .returned (.int .i64 (Lib.countByte s.data.toList c)) ∧ w' = w := Any.strings_Count_one Try.lays138 s c w
def Try.laysM219_ren : Go.Shelf.Ren := ⟨fun | 219 => 122 | 217 => 123 | 225 => 124 | 224 => 125 | 267 => 126 | 266 => 127 | 314 => 128 | n => n, fun | 9 => 9 | 3 => 3 | 4 => 4 | 5 => 5 | 46 => 111 | 146 => 128 | 51 => 69 | n => n, fun | 1 => 0 | n => n⟩
def Try.laysM143_ren : Go.Shelf.Ren := ⟨fun | 143 => 121 | 219 => 122 | 217 => 123 | 225 => 124 | 224 => 125 | 267 => 126 | 266 => 127 | 314 => 128 | n => n, fun | 9 => 9 | 3 => 3 | 4 => 4 | 5 => 5 | 46 => 111 | 146 => 128 | 51 => 69 | n => n, fun | 1 => 0 | n => n⟩
def Try.laysM220_ren : Go.Shelf.Ren := ⟨fun | 220 => 118 | 219 => 122 | 217 => 123 | 225 => 124 | 224 => 125 | 267 => 126 | 266 => 127 | 314 => 128 | n => n, fun | 9 => 9 | 4 => 4 | 3 => 3 | 5 => 5 | 46 => 111 | 146 => 128 | 51 => 69 | n => n, fun | 1 => 0 | n => n⟩
def Try.laysM145_ren : Go.Shelf.Ren := ⟨fun | 145 => 115 | 220 => 118 | 219 => 122 | 217 => 123 | 225 => 124 | 224 => 125 | 267 => 126 | 266 => 127 | 314 => 128 | n => n, fun | 9 => 9 | 4 => 4 | 59 => 124 | 3 => 3 | 5 => 5 | 46 => 111 | 146 => 128 | 51 => 69 | n => n, fun | 1 => 0 | n => n⟩
def Try.laysM138_ren : Go.Shelf.Ren := ⟨fun | 138 => 117 | 195 => 119 | 218 => 120 | 143 => 121 | 219 => 122 | 217 => 123 | 225 => 124 | 224 => 125 | 267 => 126 | 266 => 127 | 314 => 128 | n => n, fun | 9 => 9 | 3 => 3 | 4 => 4 | 5 => 5 | 0 => 0 | 46 => 111 | 146 => 128 | 51 => 69 | n => n, fun | 1 => 0 | n => n⟩
end Go.Proofs
namespace Go.Proofs.Ytbekocknfpekoaa
set_option linter.unusedVariables false
set_option linter.unusedSimpArgs false
open Go.RowKit
theorem bs_size (l : List UInt8) : (⟨l.toArray⟩ : ByteArray).size = l.length := by simp [ByteArray.size]
/-- may a label have this byte -/
def memB (c : UInt8) : Bool := (decide (97 ≤ c.toNat) && decide (c.toNat ≤ 122)) || (decide (48 ≤ c.toNat) && decide (c.toNat ≤ 57)) || decide (c.toNat = 95)
/-- is it a label -/
def labB (l : List UInt8) : Bool := l.all memB && decide (l ≠ []) && decide (l.length ≤ 16)
theorem member_t (c : UInt8) (w : World) : Calls Try.prog 116 #[.int .u8 c.toNat] w fun e w' => e = .returned (.bool (memB c)) ∧ w = w' := by
  unfold memB
  have hc : c.toNat < 256 := c.toNat_lt
  generalize c.toNat = n at *
  go_enter Try.func116, Try.ntmps116
  by_cases h1 : 97 ≤ n
  · by_cases h2 : n ≤ 122
    · have h1' : (97 : Int) ≤ n := by omega
      have h2' : (n : Int) ≤ 122 := by omega
      go_wp2
      go_ret
      exact ⟨by simp [h1, h2], rfl⟩
    · have h1' : (97 : Int) ≤ n := by omega
      have h2' : ¬ (n : Int) ≤ 122 := by omega
      have h3' : (48 : Int) ≤ n := by omega
      have h4' : ¬ (n : Int) ≤ 57 := by omega
      have h5' : ((n : Int) == 95) = false := by simp; omega
      have h5 : ¬ (n : Int) = 95 := by omega
      go_wp2
      go_ret
      exact ⟨by simp <;> omega, rfl⟩
  · have h1' : ¬ (97 : Int) ≤ n := by omega
    by_cases h3 : 48 ≤ n
    · have h3' : (48 : Int) ≤ n := by omega
      by_cases h4 : n ≤ 57
      · have h4' : (n : Int) ≤ 57 := by omega
        go_wp2
        go_ret
        exact ⟨by simp [h3, h4], rfl⟩
      · have h4' : ¬ (n : Int) ≤ 57 := by omega
        by_cases h5 : n = 95
        · subst h5
          go_wp2
          go_ret
          exact ⟨rfl, rfl⟩
        · have h5' : ((n : Int) == 95) = false := by simp; omega
          have h5'' : ¬ (n : Int) = 95 := by omega
          go_wp2
          go_ret
          exact ⟨by simp <;> omega, rfl⟩
    · have h3' : ¬ (48 : Int) ≤ n := by omega
      have h5' : ((n : Int) == 95) = false := by simp; omega
      have h5 : ¬ (n : Int) = 95 := by omega
      go_wp2
      go_ret
      exact ⟨by simp <;> omega, rfl⟩
theorem labB_bad {l : List UInt8} {j : Nat} (hj : j < l.length) (h : j = 16 ∨ memB l[j] = false) : labB l = false := by
  unfold labB
  rcases h with rfl | h
  · have : ¬ l.length ≤ 16 := by omega
    simp [this]
  · have : l.all memB = false := by rw [List.all_eq_false]; exact ⟨l[j], List.getElem_mem hj, by simp [h]⟩
    simp [this]
theorem labB_ok {l : List UInt8} (h : ∀ i (hi : i < l.length), memB l[i] = true) (hl : l.length ≤ 16) : labB l = decide (l ≠ []) := by
  unfold labB
  have : l.all memB = true := by rw [List.all_eq_true]; intro x hx; obtain ⟨i, hi, rfl⟩ := List.getElem_of_mem hx; exact h i hi
  simp [this, hl]
theorem ne_empty (l : List UInt8) : (⟨l.toArray⟩ : ByteArray) = ⟨#[]⟩ ↔ l = [] := by
  constructor
  · intro h
    have := congrArg (fun b : ByteArray => b.data.toList) h
    simpa using this
  · rintro rfl; rfl
set_option maxHeartbeats 1600000 in
theorem isLabel_t (l : List UInt8) (hl : l.length ≤ 140737488355328) (w : World) : Calls Try.prog 109 #[.string ⟨l.toArray⟩] w fun e w' => e = .returned (.bool (labB l)) ∧ w = w' := by
  have hsz := bs_size l
  go_enter Try.func109, Try.ntmps109
  go_wp2_with fail
  go_loopw [6] (fun i wr => ∃ (j : Nat), j ≤ l.length ∧ i = .int .i64 j ∧ j ≤ 16 ∧ Hid (∀ i (hi : i < j) (hl : i < l.length), memB l[i] = true) ∧ wr = w) (fun i _ => l.length - (intOf i).toNat)
  case atStart => exact ⟨0, by omega, rfl, by omega, Lib.hid (fun i hi => by omega), rfl⟩
  case round =>
    obtain ⟨j, hj, rfl, h16, hm, rfl⟩ := hrel
    by_cases hlt : j < l.length
    · obtain ⟨c, hlj⟩ : ∃ c, l[j] = c := ⟨_, rfl⟩
      have hsp : j < (⟨l.toArray⟩ : ByteArray).size := by rw [hsz]; exact hlt
      have hch : (⟨l.toArray⟩ : ByteArray)[j]'hsp = c := hlj
      have HJ := Lib.hid hlj
      clear hlj
      by_cases h : j = 16
      · have HB := Lib.hid (labB_bad hlt (.inl h))
        subst h
        go_wp2
        go_ret
        exact ⟨by rw [HB.out]; rfl, rfl⟩
      · have e16 : ((j : Int) == 16) = false := by simp; omega
        have e16' : ¬ (j : Int) = 16 := by omega
        cases hmb : memB c with
        | false =>
          have HB := Lib.hid (labB_bad hlt (.inr (by rw [HJ.out]; exact hmb)))
          go_wp2_with fail
          refine (member_t c wr).mono ?_
          rintro e w1 ⟨rfl, rfl⟩
          rw [hmb]
          clear hmb
          go_wp2
          go_ret
          exact ⟨by rw [HB.out]; rfl, rfl⟩
        | true =>
          have HM := Lib.hid (show ∀ i (hi : i < j + 1) (hl : i < l.length), memB l[i] = true from fun i hi hl => by
            by_cases e : i = j
            · subst e; rw [HJ.out]; exact hmb
            · exact hm.out i (by omega) hl)
          go_wp2_with fail
          refine (member_t c wr).mono ?_
          rintro e w1 ⟨rfl, rfl⟩
          rw [hmb]
          clear hmb hm
          go_wp2
          exact ⟨⟨j + 1, by omega, by go_num, by omega, HM, trivial⟩, by simp [intOf]; omega⟩
    · have hjl : j = l.length := by omega
      have HB := Lib.hid (labB_ok (l := l) (fun i hi => hm.out i (by omega) hi) (by omega))
      clear hm
      by_cases h0 : l = []
      · subst h0
        go_wp2
        go_ret
        exact ⟨by rw [HB.out]; rfl, rfl⟩
      · have hne : ¬ (⟨l.toArray⟩ : ByteArray) = ⟨#[]⟩ := fun h => h0 ((ne_empty l).1 h)
        subst hjl
        go_wp2
        go_ret
        exact ⟨by rw [HB.out]; simp [hne, h0], rfl⟩
end Go.Proofs.Ytbekocknfpekoaa
namespace Go.Proofs.Ytbekocknfpekoaa
set_option linter.unusedVariables false
set_option linter.unusedSimpArgs false
open Go.RowKit
/-- the iterator hands yield f 0, f 1, .. up to N rounds, and stops where a round says no -/
def SeqN (F : Fence) (n : Nat) (P : Program) (g : Nat) (lb : Array Value) (f : Nat → Array Value) (Kp : World → World → Prop) (N : Nat) (w : World) : Prop :=
  ∀ (l : Nat) (J Jx : Nat → World → Prop) (W : World), Below w.heap.size w W → AbidesFrom W.heap.size J → AbidesFrom W.heap.size Jx →
    (∀ k V, k < N → J k V → YieldAt F (n - 1) P l (f k) V fun e V' => (e = .returned (.bool true) ∧ J (k + 1) V' ∧ Kp V V') ∨ (e = .returned (.bool false) ∧ Jx (k + 1) V')) →
    J 0 W → CallsIn F n P g (#[.func (.yield l) #[] #[]] ++ lb) W fun e W' => (∃ v, e = .returned v) ∧ (J N W' ∨ ∃ k, k ≤ N ∧ Jx k W')
/-- how a round's body may be left -/
def roundQ (B : Nat) (Kp : World → World → Prop) (I : Nat → World → Prop) (Ix : Code → Nat → World → Prop) (k : Nat) (W : World) : Exit → Act → World → Prop
  | .normal, _, W' => KeepsFrom B W W' ∧ Kp W W' ∧ I (k + 1) W'
  | .ret, _, W' => KeepsFrom B W W' ∧ Ix .ret (k + 1) W'
  | .exit id, _, W' => KeepsFrom B W W' ∧ Ix (.exit id) (k + 1) W'
  | .goto t, _, W' => KeepsFrom B W W' ∧ Ix (.goto t) (k + 1) W'
  | .panic _, _, _ => False
  | .outgrown, _, _ => False
theorem wpIn_rangeN {F : Fence} {n : Nat} {P : Program} {g : Operand} {ps : Array Tmp} {assign body : Code} {Q : Exit → Act → World → Prop} {a : Act} {w : World}
    (hro : F.round = none) (h1 : 1 ≤ n) {gf : Nat} {lb : Array Value} (hg : a.eval g = .func (.func gf) #[] lb) (hFg : F.fn gf) (eg : ∀ args w, (callFunc gf args).run P w = .ok (.enter gf args) w)
    {f : Nat → Array Value} {Kp : World → World → Prop} {N : Nat} {w0 : World} (hseq : SeqN F (n - 1) P gf lb f Kp N w0)
    (hKt : ∀ {A B C : World}, Kp A B → Kp B C → Kp A C) (hKb : ∀ (W : World) (l : Nat) (o o' : Obj), w.heap.size ≤ l → W.heap[l]? = some o → o.isCells = false → o.isWalk = false → Kp W (W.putObj l o')) (hb0 : Below w0.heap.size w0 w) (hps : ∀ k, (f k).size = ps.size)
    (I : Nat → World → Prop) (Ix : Code → Nat → World → Prop) (hI : OwnFrom w.heap.size I) (hIx : ∀ c, OwnFrom w.heap.size (Ix c)) (h0 : I 0 w) (a1 : Nat → Act)
    (hassign : ∀ (l k : Nat) (W : World) (K : Act → World → Prop), K (a1 k) W →
      assign.wpIn (F.inRound l) (n - 1 - 1) P (Exit.then K (fun _ _ _ => False)) { tmps := (ps.zip (f k)).foldl (fun t (p, v) => t.setIfInBounds p v) a.tmps, defers := [] } W)
    (hbody : ∀ (l k : Nat) (W : World), k < N → I k W → body.wpIn (F.inRound l) (n - 1 - 1) P (roundQ w.heap.size Kp I Ix k W) (a1 k) W)
    (hdone : ∀ (D : Nat) (W : World), w.heap.size ≤ D → I N W → W.heap[D]? = some (.deferred (some [])) → Q .normal { a with defers := { target := .collected D, args := #[] } :: a.defers } W)
    (hstop : ∀ (D : Nat) (c : Code) (k : Nat) (W : World), w.heap.size ≤ D → k ≤ N → Ix c k W → W.heap[D]? = some (.deferred (some [])) → c.wpIn F n P Q { a with defers := { target := .collected D, args := #[] } :: a.defers } W) :
    (Code.rangeFunc g ps assign body).wpIn F n P Q a w := by
  refine wpIn_rangeFunc fun fn hfn => ?_
  rw [hro]
  -- the loop's record, the block for deferred calls below it
  obtain ⟨rec, hrec⟩ : ∃ rec : LoopState → Option Code → Loop, rec = fun st pe => { state := st, pending := pe, fn, tmps := a.tmps, params := ps, assign, body, defers := w.heap.size } := ⟨_, rfl⟩
  obtain ⟨V, hV⟩ : ∃ V, (w.alloc (.deferred (some []))).alloc (.loop (rec .ready none)) = V := ⟨_, rfl⟩
  have rec1 : V.heap[w.heap.size + 1]? = some (.loop (rec .ready none)) := by
    rw [← hV]; have := World.alloc_heap_new (w.alloc (.deferred (some []))) (.loop (rec .ready none)); rwa [World.size_alloc] at this
  have def1 : V.heap[w.heap.size]? = some (.deferred (some [])) := by
    rw [← hV]; exact (Below.heap_alloc _ _ _ (by simp)).trans (World.alloc_heap_new w _)
  have I1 : I 0 V := by rw [← hV]; exact hI.alloc _ (hI.alloc _ h0)
  have B1 : Below w0.heap.size w0 V := by
    rw [← hV]; exact hb0.trans ((((Below.refl _ w).alloc (Nat.le_refl _) _).alloc (by simp) _).mono hb0.size)
  have away : ∀ {A : World} {row : Option Nat}, (∀ r, row = some r → V.heap.size ≤ r ∧ ∃ o : Obj, A.heap[r]? = some o ∧ o.isWalk = true) → (∀ r, row = some r → w.heap.size ≤ r ∧ ∃ o : Obj, A.heap[r]? = some o ∧ o.isCells = false) :=
    fun hr r e => by obtain ⟨hB, o, ho, hw⟩ := hr r e; exact ⟨by rw [← hV] at hB; simp at hB; omega, o, ho, Obj.not_cells_of_walk hw⟩
  refine ⟨w.heap.size + 1, [{ target := .collected w.heap.size, args := #[] }], V, { target := .fn (.func gf) lb, args := #[.func (.yield (w.heap.size + 1)) #[] #[]] }, V, gf,
    #[.func (.yield (w.heap.size + 1)) #[] #[]] ++ lb, V, ?_, ?_, ?_, ?_, fun _ => h1, ?_⟩
  · rw [← hV, hrec]; exact run_enterLoop_outer _ _ _ _ _
  · simp only [resolve, hg]; simp [go_sem]
  · intro f' hf'; simp [Target.leads] at hf'; subst hf'; exact hFg
  · simp [invoke, go_sem, eg]
  refine (hseq (w.heap.size + 1)
    (fun k W => I k W ∧ W.heap[w.heap.size + 1]? = some (.loop (rec .ready none)) ∧ W.heap[w.heap.size]? = some (.deferred (some [])))
    (fun k W => ∃ c, Ix c k W ∧ W.heap[w.heap.size + 1]? = some (.loop (rec .done (some c))) ∧ W.heap[w.heap.size]? = some (.deferred (some [])))
    V B1
    (fun s A B row hs hg' hr => ⟨hI s A B row hs.1 hg' (away hr), (grownBy_keeps hg' (fun r e => (hr r e).2) hs.2.1 rfl).trans hs.2.1, (grownBy_keeps hg' (fun r e => (hr r e).2) hs.2.2 rfl).trans hs.2.2⟩)
    (fun s A B row hs hg' hr => hs.elim fun c hc => ⟨c, hIx c s A B row hc.1 hg' (away hr), (grownBy_keeps hg' (fun r e => (hr r e).2) hc.2.1 rfl).trans hc.2.1, (grownBy_keeps hg' (fun r e => (hr r e).2) hc.2.2 rfl).trans hc.2.2⟩)
    ?_ ⟨I1, rec1, def1⟩).mono ?_
  · rintro k W hk ⟨hi, hl, hd⟩
    have hlt : w.heap.size + 1 < W.heap.size := (Array.getElem?_eq_some_iff.1 hl).1
    have hy := run_yield (P := P) (args := f k) hl (by rw [hrec]; exact hps k)
    rw [hrec] at hy
    refine ⟨fn, _, assign, body, hy, roundIn_of_wpIn hfn (hassign _ k W _ ⟨_, run_beginRound hl (by rw [hrec]), ?_⟩)⟩
    obtain ⟨U, hU⟩ : ∃ U, W.putObj (w.heap.size + 1) (.loop { rec .ready none with state := .busy }) = U := ⟨_, rfl⟩
    have l2 : U.heap[w.heap.size + 1]? = some (.loop { rec .ready none with state := .busy }) := by rw [← hU]; exact World.putObj_heap_same hlt
    have d2 : U.heap[w.heap.size]? = some (.deferred (some [])) := by rw [← hU]; exact (World.putObj_heap_other (by omega)).trans hd
    have k2 : Kp W U := by rw [← hU]; exact hKb _ _ _ _ (by omega) hl rfl rfl
    have i2 : I k U := by rw [← hU]; exact hI.putObj _ hi (by omega) hl rfl
    rw [hU]
    refine wpIn_mono (hbody _ k U hk i2) ?_
    have fin : ∀ (jump : Option Code) (X : World), KeepsFrom w.heap.size U X →
        (Instr.endRound (w.heap.size + 1) jump).run P X = .ok (.bool jump.isNone) (X.putObj (w.heap.size + 1) (.loop (rec (if jump.isNone then .ready else .done) jump))) ∧
        X.heap[w.heap.size + 1]? = some (.loop { rec .ready none with state := .busy }) ∧
        (X.putObj (w.heap.size + 1) (.loop (rec (if jump.isNone then .ready else .done) jump))).heap[w.heap.size + 1]? = some (.loop (rec (if jump.isNone then .ready else .done) jump)) ∧
        (X.putObj (w.heap.size + 1) (.loop (rec (if jump.isNone then .ready else .done) jump))).heap[w.heap.size]? = some (.deferred (some [])) := fun jump X hX => by
      have l3 := hX.same _ _ (by omega) l2 rfl
      have := run_endRound (P := P) jump l3
      rw [hrec] at this ⊢
      exact ⟨this, by rw [hrec] at l3; exact l3, World.putObj_heap_same (Array.getElem?_eq_some_iff.1 l3).1, (World.putObj_heap_other (by omega)).trans (hX.same _ _ (Nat.le_refl _) d2 rfl)⟩
    rintro e b X hp
    cases e with
    | normal =>
      obtain ⟨r, l3, l4, d4⟩ := fin none X hp.1
      exact ⟨_, _, r, .inl ⟨rfl, ⟨hI.putObj _ hp.2.2 (by omega) l3 rfl, l4, d4⟩, hKt (hKt k2 hp.2.1) (hKb _ _ _ _ (by omega) l3 rfl rfl)⟩⟩
    | ret =>
      obtain ⟨r, l3, l4, d4⟩ := fin (some .ret) X hp.1
      exact ⟨_, _, r, .inr ⟨rfl, .ret, (hIx _).putObj _ hp.2 (by omega) l3 rfl, l4, d4⟩⟩
    | exit id =>
      obtain ⟨r, l3, l4, d4⟩ := fin (some (.exit id)) X hp.1
      exact ⟨_, _, r, .inr ⟨rfl, .exit id, (hIx _).putObj _ hp.2 (by omega) l3 rfl, l4, d4⟩⟩
    | goto t =>
      obtain ⟨r, l3, l4, d4⟩ := fin (some (.goto t)) X hp.1
      exact ⟨_, _, r, .inr ⟨rfl, .goto t, (hIx _).putObj _ hp.2 (by omega) l3 rfl, l4, d4⟩⟩
    | panic ch => exact hp.elim
    | outgrown => exact hp.elim
  · rintro e X ⟨⟨v, rfl⟩, (⟨hi, hl, hd⟩ | ⟨k, hk, c, hi, hl, hd⟩)⟩
    · exact ⟨none, _, by have := run_endLoop (P := P) hl (by rw [hrec]; simp); rw [hrec] at this; exact this, hdone _ _ (Nat.le_refl _) (hI.putObj _ hi (by omega) hl rfl) ((World.putObj_heap_other (by omega)).trans hd)⟩
    · exact ⟨some c, _, by have := run_endLoop (P := P) hl (by rw [hrec]; simp); rw [hrec] at this; exact this, hstop _ c k _ (Nat.le_refl _) hk ((hIx c).putObj _ hi (by omega) hl rfl) ((World.putObj_heap_other (by omega)).trans hd)⟩
end Go.Proofs.Ytbekocknfpekoaa
namespace Go.Proofs.Ytbekocknfpekoaa
set_option linter.unusedVariables false
set_option linter.unusedSimpArgs false
open Go.RowKit
theorem idx_at (c : UInt8) (r : List UInt8) : ∀ (p : List UInt8), c ∉ p → Lib.indexByte (p ++ c :: r) c = p.length
  | [], _ => by simp [Lib.indexByte]
  | x :: p, h => by
    have hx : ¬ x = c := fun e => h (by rw [e]; simp)
    have ih := idx_at c r p (fun hm => h (List.mem_cons_of_mem _ hm))
    rw [List.cons_append, Lib.indexByte, ih, if_neg (by simpa using hx), if_neg (by simp)]
    simp
theorem idx_no (c : UInt8) : ∀ (p : List UInt8), c ∉ p → Lib.indexByte p c = -1
  | [], _ => rfl
  | x :: p, h => by
    have hx : ¬ x = c := fun e => h (by rw [e]; simp)
    rw [Lib.indexByte, idx_no c p (fun hm => h (List.mem_cons_of_mem _ hm)), if_neg (by simpa using hx), if_pos (by simp)]
theorem ext_l (l : List UInt8) (a b : Nat) : (⟨l.toArray⟩ : ByteArray).extract a b = ⟨((l.take b).drop a).toArray⟩ := by
  apply ByteArray.ext
  simp [ByteArray.extract, ByteArray.copySlice]
  rw [List.drop_take]
set_option maxHeartbeats 1600000 in
theorem liteAt_t (p r : List UInt8) (c : UInt8) (hp : c ∉ p) (hl : (p ++ c :: r).length ≤ 140737488355328) (w : World) : Calls Try.prog 118 #[.string ⟨(p ++ c :: r).toArray⟩, .string ⟨#[c]⟩] w fun e w' => e = .returned (.tuple #[.string ⟨p.toArray⟩, .string ⟨r.toArray⟩, .bool true]) ∧ ∃ n, w' = w.drewN n := by
  have hi := idx_at c r p hp
  have hsz := bs_size (p ++ c :: r)
  have hlen : (p ++ c :: r).length = p.length + 1 + r.length := by simp; omega
  have x0 := ext_l (p ++ c :: r) 0 p.length
  have x1 := ext_l (p ++ c :: r) (p.length + 1) (p ++ c :: r).length
  rw [List.take_left, List.drop_zero] at x0
  rw [List.take_length, show (p ++ c :: r).drop (p.length + 1) = r by rw [List.drop_append, List.drop_eq_nil_of_le (by omega)]; simp] at x1
  have hx := Try.stringslite_Index_one ⟨(p ++ c :: r).toArray⟩ c w
  rw [show (⟨(p ++ c :: r).toArray⟩ : ByteArray).data.toList = p ++ c :: r by simp, hi] at hx
  generalize p ++ c :: r = l at *
  generalize p.length = k at *
  rw [← hsz] at hlen
  go_enter Try.func118, Try.ntmps118
  go_wp2_with fail
  refine hx.mono ?_
  rintro e w1 ⟨rfl, rfl⟩
  clear hx hi
  have h0 : (0 : Int) ≤ (k : Int) := by omega
  have z1 : (⟨#[c]⟩ : ByteArray).size = 1 := rfl
  have t1 : ((k : Int) + 1).toNat = k + 1 := by omega
  go_wp2_with fail
  go_region
  go_wp2
  exact bodyPost_ret (v := .tuple #[.string ⟨p.toArray⟩, .string ⟨r.toArray⟩, .bool true]) (by simp [results, Try.results118, go_sem]) rfl ⟨rfl, 1, rfl⟩
theorem liteNo_t (l : List UInt8) (c : UInt8) (hp : c ∉ l) (w : World) : Calls Try.prog 118 #[.string ⟨l.toArray⟩, .string ⟨#[c]⟩] w fun e w' => e = .returned (.tuple #[.string ⟨l.toArray⟩, .string ⟨#[]⟩, .bool false]) ∧ w' = w := by
  have hx := Try.stringslite_Index_one ⟨l.toArray⟩ c w
  rw [show (⟨l.toArray⟩ : ByteArray).data.toList = l by simp, idx_no c l hp] at hx
  go_enter Try.func118, Try.ntmps118
  go_wp2_with fail
  refine hx.mono ?_
  rintro e w1 ⟨rfl, rfl⟩
  clear hx
  go_wp2
  exact bodyPost_ret (v := .tuple #[.string ⟨l.toArray⟩, .string ⟨#[]⟩, .bool false]) (by simp [results, Try.results118, go_sem]) rfl ⟨rfl, rfl⟩
theorem cutAt_t (p r : List UInt8) (c : UInt8) (hp : c ∉ p) (hl : (p ++ c :: r).length ≤ 140737488355328) (w : World) : Calls Try.prog 115 #[.string ⟨(p ++ c :: r).toArray⟩, .string ⟨#[c]⟩] w fun e w' => e = .returned (.tuple #[.string ⟨p.toArray⟩, .string ⟨r.toArray⟩, .bool true]) ∧ ∃ n, w' = w.drewN n := by
  have hx := liteAt_t p r c hp hl w
  generalize p ++ c :: r = l at *
  go_enter Try.func115, Try.ntmps115
  go_wp2_with fail
  refine hx.mono ?_
  rintro e w1 ⟨rfl, n, rfl⟩
  clear hx
  go_wp2
  exact bodyPost_ret (v := .tuple #[.string ⟨p.toArray⟩, .string ⟨r.toArray⟩, .bool true]) (by simp [results, Try.results115, go_sem]) rfl ⟨rfl, n, rfl⟩
theorem cutNo_t (l : List UInt8) (c : UInt8) (hp : c ∉ l) (w : World) : Calls Try.prog 115 #[.string ⟨l.toArray⟩, .string ⟨#[c]⟩] w fun e w' => e = .returned (.tuple #[.string ⟨l.toArray⟩, .string ⟨#[]⟩, .bool false]) ∧ w' = w := by
  have hx := liteNo_t l c hp w
  go_enter Try.func115, Try.ntmps115
  go_wp2_with fail
  refine hx.mono ?_
  rintro e w1 ⟨rfl, rfl⟩
  clear hx
  go_wp2
  exact bodyPost_ret (v := .tuple #[.string ⟨l.toArray⟩, .string ⟨#[]⟩, .bool false]) (by simp [results, Try.results115, go_sem]) rfl ⟨rfl, rfl⟩
/-- what stands between the periods -/
def splitD : List UInt8 → List (List UInt8)
  | [] => [[]]
  | c :: r => if c = 46 then [] :: splitD r else match splitD r with
    | h :: t => (c :: h) :: t
    | [] => [[c]]
def partsL (l : List UInt8) : List (List UInt8) := if l = [] then [] else splitD l
theorem splitD_no : ∀ (p : List UInt8), (46 : UInt8) ∉ p → splitD p = [p]
  | [], _ => rfl
  | c :: p, h => by
    have hc : ¬ c = 46 := fun e => h (by rw [e]; simp)
    rw [splitD, if_neg hc, splitD_no p (fun hm => h (List.mem_cons_of_mem _ hm))]
theorem splitD_at : ∀ (p r : List UInt8), (46 : UInt8) ∉ p → splitD (p ++ 46 :: r) = p :: splitD r
  | [], r, _ => by rw [List.nil_append, splitD, if_pos rfl]
  | c :: p, r, h => by
    have hc : ¬ c = 46 := fun e => h (by rw [e]; simp)
    rw [List.cons_append, splitD, if_neg hc, splitD_at p r (fun hm => h (List.mem_cons_of_mem _ hm))]
theorem splitD_ne (l : List UInt8) : splitD l ≠ [] := by
  cases l with
  | nil => simp [splitD]
  | cons c r =>
    rw [splitD]
    split
    · simp
    · split <;> simp
theorem splitD_cases (l : List UInt8) : (∃ p r, (46 : UInt8) ∉ p ∧ l = p ++ 46 :: r ∧ splitD l = p :: splitD r) ∨ ((46 : UInt8) ∉ l ∧ splitD l = [l]) := by
  by_cases h : (46 : UInt8) ∈ l
  · obtain ⟨p, r, rfl, hp⟩ := List.eq_append_cons_of_mem h
    exact Or.inl ⟨p, r, hp, rfl, splitD_at p r hp⟩
  · exact Or.inr ⟨h, splitD_no l h⟩
theorem splitD_len (l : List UInt8) : (splitD l).length ≤ l.length + 1 := by
  induction l with
  | nil => simp [splitD]
  | cons c r ih =>
    rw [splitD]
    split
    · simp; omega
    · cases hs : splitD r with
      | nil => simp
      | cons h t => rw [hs] at ih; simp at ih ⊢; omega
theorem partsL_len (l : List UInt8) : (partsL l).length ≤ l.length + 1 := by
  unfold partsL
  split
  · simp
  · exact splitD_len l
/-- what round k is handed -/
def partF (l : List UInt8) (k : Nat) : Array Value := #[.int .i64 k, .string ⟨((partsL l)[k]?.getD []).toArray⟩]
attribute [local go_sem] Oper.semAt_some
theorem abides_drewN {β : Type} {B : Nat} {J : β → World → Prop} (h : AbidesFrom B J) {s : β} {W : World} (hs : J s W) (n : Nat) : J s (W.drewN n) :=
  h s W (W.drewN n) none hs ⟨rfl, rfl, rfl, Nat.le_refl _, fun _ _ _ => rfl⟩ (fun r e => by cases e)
def mLen (s m : Value) : Nat := match m, s with
  | .bool true, .string b => b.size + 1
  | _, _ => 0
set_option maxRecDepth 100000 in
set_option maxHeartbeats 2000000 in
theorem parts1_in (l : List UInt8) (hl : l.length ≤ 140737488355328) (n g : Nat) (w : World) (hg : w.cell? ⟨g, 0, none⟩ = some (.string ⟨l.toArray⟩)) (hgw : g < w.heap.size) :
    SeqN Fence.wide n Try.prog 114 #[.pointer (some ⟨g, 0, none⟩)] (partF l) (fun _ _ => True) (partsL l).length w := by
  intro i J Jx W hb hJ hJx hY h0
  have hc := (hb.cell (p := ⟨g, 0, none⟩) hgw).trans hg
  clear hb
  refine callsIn_of_wp Try.func114 rfl trivial ?_ rfl
  simp only [Try.ntmps114, List.size_toArray, List.length_cons, List.length_nil, Nat.reduceAdd, Nat.reduceSub, Array.replicate_succ, Array.replicate_zero, List.push_toArray, List.append_toArray, List.nil_append, List.cons_append]
  gi_wp2
  gi_region
  have h1 : J 0 W.drew := abides_drewN hJ h0 1
  have hrel0 : if (!l.isEmpty) = true then (partsL l).drop 0 = splitD l else (partsL l).length = 0 := by
    unfold partsL
    by_cases h : l = []
    · subst h; simp
    · have : l.isEmpty = false := by cases l <;> simp_all
      rw [if_neg h, this]; simp
  have HJ := Lib.hid (And.intro hJ hJx)
  have HR0 := Lib.hid hrel0
  have hY' := Lib.hid hY
  clear hrel0 hJ hJx h0 hc hY
  generalize W.drew = W1 at *
  gi_wp2
  gi_loopw [3, 4, 5] (fun s m iv wr => ∃ (b : Bool) (rest : List UInt8) (k : Nat), s = .string ⟨rest.toArray⟩ ∧ m = .bool b ∧ iv = .int .i64 k ∧ rest.length ≤ 140737488355328 ∧ k ≤ l.length + 1 ∧ J k wr ∧ Hid (if b = true then (partsL l).drop k = splitD rest else (partsL l).length = k)) (fun s m _ _ => mLen s m)
  case atStart => exact ⟨_, l, 0, rfl, rfl, rfl, hl, by omega, h1, HR0⟩
  case round =>
    clear h1 HR0
    obtain ⟨b, rest, k, rfl, rfl, rfl, hrl, hk, hJk, hr⟩ := hrel
    cases b with
    | false =>
      have hN := hr.out
      rw [if_neg (by simp)] at hN
      gi_wp2
      go_end0
      exact ⟨⟨_, rfl⟩, .inl (by rw [hN]; exact hJk)⟩
    | true =>
      have hN := hr.out
      rw [if_pos rfl] at hN
      clear hr
      have hkN : k < (partsL l).length := by
        by_cases h : k < (partsL l).length
        · exact h
        · rw [List.drop_eq_nil_of_le (by omega)] at hN; exact absurd hN.symm (splitD_ne rest)
      have hNl := partsL_len l
      rcases splitD_cases rest with ⟨p, r, hp, hre, hsp⟩ | ⟨hp, hsp⟩
      · rw [hsp] at hN
        have hcut := cutAt_t p r 46 hp (by rw [← hre]; exact hrl) wr
        rw [← hre] at hcut
        have hget : (partsL l)[k]? = some p := by
          have := congrArg (·[0]?) hN
          simpa using this
        have hnx : (partsL l).drop (k + 1) = splitD r := by
          rw [← List.drop_drop, hN]; rfl
        have hrlen : r.length ≤ 140737488355328 := by rw [hre] at hrl; simp at hrl; omega
        have HD := Lib.hid (show r.length + 1 < rest.length + 1 by rw [hre]; simp; omega)
        have HNX := Lib.hid hnx
        have HC := Lib.hid hcut
        clear hN hsp hp hre hcut hnx
        gi_wp2
        refine ⟨trivial, fun h => (by cases h), (callsIn_wide.2 HC.out).mono ?_⟩
        rintro e w1 ⟨rfl, m, rfl⟩
        have hJ1 := abides_drewN HJ.out.1 hJk m
        generalize wr.drewN m = W2 at *
        obtain ⟨fn, tmps, assign, body, hy, hR⟩ := hY'.out k W2 hkN hJ1
        have hpf : partF l k = #[.int .i64 k, .string ⟨p.toArray⟩] := by unfold partF; rw [hget]; rfl
        rw [hpf] at hy
        clear hJk hget hpf
        gi_wp2
        refine ⟨fun h => (by cases h), hR.mono ?_⟩
        rintro e W3 (⟨rfl, hJ3, _⟩ | ⟨rfl, hJx3⟩)
        · gi_wp2
          exact ⟨⟨true, r, k + 1, rfl, rfl, by go_num, hrlen, by omega, hJ3, Lib.hid (by rw [if_pos rfl]; exact HNX.out)⟩, by have := HD.out; simpa [mLen, bs_size] using this⟩
        · gi_wp2
          refine bodyPost_ret (results_none rfl _ _ _) rfl ?_
          exact ⟨⟨_, rfl⟩, .inr ⟨_, by omega, hJx3⟩⟩
      · rw [hsp] at hN
        have hcut := cutNo_t rest 46 hp wr
        have hget : (partsL l)[k]? = some rest := by
          have := congrArg (·[0]?) hN
          simpa using this
        have hend : (partsL l).length = k + 1 := by
          have := congrArg List.length hN
          simp at this; omega
        have HEN := Lib.hid hend
        have HC := Lib.hid hcut
        clear hN hsp hp hcut hend
        gi_wp2
        refine ⟨trivial, fun h => (by cases h), (callsIn_wide.2 HC.out).mono ?_⟩
        rintro e w1 ⟨rfl, rfl⟩
        obtain ⟨fn, tmps, assign, body, hy, hR⟩ := hY'.out k w1 hkN hJk
        have hpf : partF l k = #[.int .i64 k, .string ⟨rest.toArray⟩] := by unfold partF; rw [hget]; rfl
        rw [hpf] at hy
        clear hJk hget hpf HC
        gi_wp2
        refine ⟨fun h => (by cases h), hR.mono ?_⟩
        rintro e W3 (⟨rfl, hJ3, _⟩ | ⟨rfl, hJx3⟩)
        · gi_wp2
          exact ⟨⟨false, [], k + 1, rfl, rfl, by go_num, by simp, by omega, hJ3, Lib.hid (by rw [if_neg (by simp)]; exact HEN.out)⟩, by simp [mLen]⟩
        · gi_wp2
          refine bodyPost_ret (results_none rfl _ _ _) rfl ?_
          exact ⟨⟨_, rfl⟩, .inr ⟨_, by omega, hJx3⟩⟩
theorem parts_t (b : ByteArray) (w : World) : Calls Try.prog 108 #[.string b] w fun e w' => e = .returned (.func (.func 114) #[] #[.pointer (some ⟨w.heap.size, 0, none⟩)]) ∧ w' = w.alloc (.cells #[.string b] 9) := by
  have hmf : ∀ (fn : Fn) (first cap : Array Value) (w : World), (Instr.makeFunc fn first cap).run Try.prog w = .ok (.func fn first cap) w := fun _ _ _ _ => rfl
  go_enter Try.func108, Try.ntmps108
  go_wp2
  go_ret
  exact ⟨rfl, rfl⟩
end Go.Proofs.Ytbekocknfpekoaa
namespace Go.Proofs.Ytbekocknfpekoaa
set_option linter.unusedVariables false
set_option linter.unusedSimpArgs false
open Go.RowKit
attribute [local go_sem] Oper.semAt_some
/-- is it a path -/
def rightB (l : List UInt8) : Bool := decide ((partsL l).length ≤ 8) && (partsL l).all labB
theorem rightB_bad {l : List UInt8} {k : Nat} (hk : k < (partsL l).length) (h : k = 8 ∨ labB ((partsL l)[k]?.getD []) = false) : rightB l = false := by
  unfold rightB
  rcases h with rfl | h
  · have : ¬ (partsL l).length ≤ 8 := by omega
    simp [this]
  · rw [List.getElem?_eq_getElem hk] at h
    have : (partsL l).all labB = false := by rw [List.all_eq_false]; exact ⟨_, List.getElem_mem hk, by simpa using h⟩
    simp [this]
theorem rightB_ok {l : List UInt8} (h : ∀ k, k < (partsL l).length → labB ((partsL l)[k]?.getD []) = true) (hl : (partsL l).length ≤ 8) : rightB l = true := by
  unfold rightB
  have : (partsL l).all labB = true := by
    rw [List.all_eq_true]; intro x hx; obtain ⟨i, hi, rfl⟩ := List.getElem_of_mem hx
    have := h i hi
    rwa [List.getElem?_eq_getElem hi] at this
  simp [this, hl]
theorem splitD_part : ∀ (l : List UInt8), ∀ p ∈ splitD l, p.length ≤ l.length
  | [], p, h => by simp [splitD] at h; simp [h]
  | c :: r, p, h => by
    rw [splitD] at h
    split at h
    · rcases List.mem_cons.1 h with rfl | h
      · simp
      · have := splitD_part r p h; simp; omega
    · cases hs : splitD r with
      | nil => rw [hs] at h; simp at h; subst h; simp
      | cons a t =>
        rw [hs] at h
        rcases List.mem_cons.1 h with rfl | h
        · have := splitD_part r a (by rw [hs]; simp); simp; omega
        · have := splitD_part r p (by rw [hs]; simp [h]); simp; omega
theorem part_len (l : List UInt8) (k : Nat) : ((partsL l)[k]?.getD []).length ≤ l.length := by
  cases hq : (partsL l)[k]? with
  | none => simp
  | some p =>
    have hm := List.mem_of_getElem? hq
    unfold partsL at hm
    split at hm
    · cases hm
    · exact splitD_part l p hm
theorem row_kept {W W' : World} {row : Option Nat} {g : Nat} {cs : Array Value} {t : TypeId} (h : Row W g cs t) (hg : W.grownBy W' row) (hrow : ∀ r, row = some r → ∃ o : Obj, W.heap[r]? = some o ∧ o.isCells = false) : Row W' g cs t :=
  (hg.block g h.lt (fun e => by obtain ⟨o, ho, hc⟩ := hrow g e.symm; unfold Row at h; rw [h] at ho; cases ho; cases hc)).trans h
theorem row_put {W : World} {g D : Nat} {cs : Array Value} {t : TypeId} (h : Row W g cs t) {o : Obj} (o' : Obj) (hD : W.heap[D]? = some o) (ho : o.isCells = false) : Row (W.putObj D o') g cs t :=
  row_kept h (grownBy_putObj' _ D o') (fun r e => by cases e; exact ⟨_, hD, ho⟩)
set_option maxRecDepth 100000 in
set_option maxHeartbeats 2000000 in
theorem right_t (l : List UInt8) (hl : l.length ≤ 140737488355328) (w : World) : Calls Try.prog 102 #[.string ⟨l.toArray⟩] w fun e w' => e = .returned (.bool (rightB l)) ∧ Below w.heap.size w w' := by
  refine (callsIn_wide (n := 3)).1 ?_
  refine callsIn_of_wp_marks Try.func102 rfl trivial ?_ rfl
  simp only [Try.ntmps102, List.size_toArray, List.length_cons, List.length_nil, Nat.reduceAdd, Nat.reduceSub, Array.replicate_succ, Array.replicate_zero, List.push_toArray, List.append_toArray, List.nil_append, List.cons_append]
  gi_wp2
  refine ⟨trivial, (callsIn_wide.2 (parts_t _ _)).mono ?_⟩
  rintro e w1 ⟨rfl, rfl⟩
  gi_wp2
  have R0 : Row ((w.alloc (.cells #[.bool false] 4)).alloc (.cells #[.string ⟨l.toArray⟩] 9)) w.heap.size #[.bool false] 4 := (Row.new w _ _).alloc _
  have R1 : Row ((w.alloc (.cells #[.bool false] 4)).alloc (.cells #[.string ⟨l.toArray⟩] 9)) (w.heap.size + 1) #[.string ⟨l.toArray⟩] 9 := by simpa using Row.new (w.alloc (.cells #[.bool false] 4)) #[.string ⟨l.toArray⟩] 9
  have hB0 : Below w.heap.size w ((w.alloc (.cells #[.bool false] 4)).alloc (.cells #[.string ⟨l.toArray⟩] 9)) := ((Below.refl _ w).alloc (Nat.le_refl _) _).alloc (by simp) _
  have hs0 : w.heap.size ≤ ((w.alloc (.cells #[.bool false] 4)).alloc (.cells #[.string ⟨l.toArray⟩] 9)).heap.size := hB0.size
  generalize (w.alloc (.cells #[.bool false] 4)).alloc (.cells #[.string ⟨l.toArray⟩] 9) = w0 at *
  refine wpIn_rangeN rfl (by omega) (gf := 114) (lb := #[.pointer (some ⟨w.heap.size + 1, 0, none⟩)]) rfl trivial (enters_of Try.func114 (by kernel_rfl) rfl)
    (parts1_in l hl _ (w.heap.size + 1) w0 ((R1.cell 0).trans rfl) R1.lt) (fun _ _ => trivial) (fun _ _ _ _ _ _ _ _ => trivial) (Below.refl _ _) (fun _ => rfl)
    (fun k W => ((∀ j, j < k → labB ((partsL l)[j]?.getD []) = true) ∧ k ≤ 8 ∧ Row W w.heap.size #[.bool false] 4) ∧ Below w.heap.size w W)
    (fun c _ W => (c = .ret ∧ rightB l = false ∧ Row W w.heap.size #[.bool false] 4) ∧ Below w.heap.size w W)
    (OwnFrom.and (Own.from (fun s A B row hs hg hr => ⟨hs.1, hs.2.1, row_kept hs.2.2 hg hr⟩) _) (ownFrom_below (Nat.le_refl _) hs0))
    (fun c => OwnFrom.and (Own.from (fun s A B row hs hg hr => ⟨hs.1, hs.2.1, row_kept hs.2.2 hg hr⟩) _) (ownFrom_below (Nat.le_refl _) hs0))
    ⟨⟨fun j hj => by omega, by omega, R0⟩, hB0⟩
    (fun k => { tmps := #[.string ⟨l.toArray⟩, undef, .pointer (some ⟨w.heap.size, 0, none⟩), .int .i64 k, .string ⟨((partsL l)[k]?.getD []).toArray⟩, .string ⟨l.toArray⟩, .func (.func 114) #[] #[.pointer (some ⟨w.heap.size + 1, 0, none⟩)], .int .i64 k, .string ⟨((partsL l)[k]?.getD []).toArray⟩, undef, undef, undef, undef, undef, undef, undef], defers := [] }) ?assign ?body ?done ?stop
  case assign =>
    intro i k W K hK
    unfold partF
    gi_wp2
    exact hK
  case body =>
    rintro i k W hkN ⟨⟨hp, h8, R⟩, hB⟩
    have hbad := rightB_bad hkN
    have hpl := part_len l k
    have hnx : labB ((partsL l)[k]?.getD []) = true → ∀ j, j < k + 1 → labB ((partsL l)[j]?.getD []) = true := fun h j hj => by
      by_cases e : j = k
      · subst e; exact h
      · exact hp j (by omega)
    have HN := Lib.hid hnx
    have hcr := (R.cell 0).trans (show _ = some (Value.bool false) from rfl)
    have hfr := R.frozen 0
    have HR := Lib.hid R
    have HB := Lib.hid hB
    clear hp hnx R hB R0 R1 hB0
    generalize (partsL l)[k]?.getD [] = p at *
    by_cases hk8 : k = 8
    · have HBD := Lib.hid (hbad (.inl hk8))
      subst hk8
      clear hbad
      gi_wp2
      refine ⟨trivial, ?_⟩
      gi_wp2
      exact ⟨(KeepsOthers.setCell _ _ _).from _, ⟨rfl, HBD.out, HR.out.set 0 (.bool false)⟩, HB.out.setCell (Nat.le_refl _) _⟩
    · have e8 : ((k : Int) == 8) = false := by simp; omega
      have e8' : ¬ (k : Int) = 8 := by omega
      gi_wp2
      refine ⟨trivial, (CallsIn.inRound i (callsIn_wide.2 (isLabel_t p (by omega) W))).mono ?_⟩
      rintro e w2 ⟨rfl, rfl⟩
      cases hlb : labB p with
      | true =>
        have HI := Lib.hid (HN.out hlb)
        clear HN hbad hlb
        gi_wp2
        exact ⟨KeepsFrom.refl _ _, trivial, ⟨HI.out, by omega, HR.out⟩, HB.out⟩
      | false =>
        have HBD := Lib.hid (hbad (.inr hlb))
        clear HN hbad hlb
        gi_wp2
        exact ⟨(KeepsOthers.setCell _ _ _).from _, ⟨rfl, HBD.out, HR.out.set 0 (.bool false)⟩, HB.out.setCell (Nat.le_refl _) _⟩
  case done =>
    rintro D W hD ⟨⟨hp, h8, R⟩, hB⟩ hK
    have HR := Lib.hid (rightB_ok hp h8)
    have hcr := (R.cell 0).trans (show _ = some (Value.bool false) from rfl)
    have hfr := R.frozen 0
    have HRR := Lib.hid R
    clear hp R R0 R1 hB0
    gi_wp2
    have hK' := (KeepsOthers.setCell W ⟨w.heap.size, 0, none⟩ (.bool true)).same D _ hK rfl
    refine ⟨by simp, .inl ⟨_, _, rfl, run_takeDeferred hK', ?_⟩⟩
    have hc5 := ((row_put (HRR.out.set 0 (.bool true)) (.deferred none) hK' rfl).cell 0).trans (show _ = some (Value.bool true) from rfl)
    refine ⟨.bool true, ?_, by rw [HR.out], (hB.setCell (p := ⟨w.heap.size, 0, none⟩) (Nat.le_refl _) _).trans (belowK_b (w := w) (Nat.le_refl _) _ D _ _ (by omega) hK' rfl rfl)⟩
    simp only [results, Try.results102]
    simp [go_sem, hc5]
  case stop =>
    rintro D c k W hD _ ⟨⟨rfl, hf, R⟩, hB⟩ hK
    gi_wp2
    refine ⟨by simp, .inl ⟨_, _, rfl, run_takeDeferred hK, ?_⟩⟩
    have hc5 := ((row_put R (.deferred none) hK rfl).cell 0).trans (show _ = some (Value.bool false) from rfl)
    refine ⟨.bool false, ?_, by rw [hf], hB.trans (belowK_b (w := w) (Nat.le_refl _) W D _ _ (by omega) hK rfl rfl)⟩
    simp only [results, Try.results102]
    simp [go_sem, hc5]
end Go.Proofs.Ytbekocknfpekoaa
namespace Go.Proofs.Ytbekocknfpekoaa
set_option linter.unusedVariables false
set_option linter.unusedSimpArgs false
open Go.RowKit
attribute [local go_sem] Oper.semAt_some
theorem splitD_count : ∀ (l : List UInt8), (splitD l).length = l.count 46 + 1
  | [] => rfl
  | c :: r => by
    have ih := splitD_count r
    rw [splitD]
    by_cases h : c = 46
    · subst h; rw [if_pos rfl]; simp [ih]
    · rw [if_neg h, List.count_cons_of_ne (by simpa using h)]
      cases hs : splitD r with
      | nil => exact absurd hs (splitD_ne r)
      | cons a t => rw [hs] at ih; simpa using ih
/-- the labels of a path; none where it is no path -/
def labsL (l : List UInt8) : List (List UInt8) := if rightB l = true then partsL l else []
theorem labsL_len (l : List UInt8) : (labsL l).length ≤ 8 := by
  unfold labsL
  split
  · rename_i h; unfold rightB at h; simp at h; exact h.1
  · simp
theorem len_t (l : List UInt8) (hl : l.length ≤ 140737488355328) (w : World) : Calls Try.prog 110 #[.string ⟨l.toArray⟩] w fun e w' => e = .returned (.int .i64 ((labsL l).length : Nat)) ∧ Below w.heap.size w w' := by
  by_cases h0 : l = []
  · subst h0
    go_enter Try.func110, Try.ntmps110
    go_wp2
    go_ret
    exact ⟨rfl, Below.refl _ _⟩
  · have hne : ¬ (⟨l.toArray⟩ : ByteArray) = ⟨#[]⟩ := fun h => h0 ((ne_empty l).1 h)
    have hie : l.isEmpty = false := by cases l <;> simp_all
    cases hr : rightB l with
    | false =>
      have HL : labsL l = [] := by unfold labsL; rw [hr]; simp
      rw [HL]
      clear HL
      go_enter Try.func110, Try.ntmps110
      go_wp2_with fail
      refine (right_t l hl w).mono ?_
      rintro e w1 ⟨rfl, hb⟩
      rw [hr]
      go_wp2
      go_ret
      exact ⟨rfl, hb⟩
    | true =>
      have HL : labsL l = partsL l := by unfold labsL; rw [hr]; simp
      have HC : (partsL l).length = l.count 46 + 1 := by unfold partsL; rw [if_neg h0]; exact splitD_count l
      have hcnt : l.count 46 ≤ l.length := List.count_le_length
      have hx := Try.strings_Count_one ⟨l.toArray⟩ 46
      rw [show (⟨l.toArray⟩ : ByteArray).data.toList = l by simp] at hx
      unfold Lib.countByte at hx
      rw [HL, HC]
      clear HL HC
      generalize l.count 46 = n at *
      go_enter Try.func110, Try.ntmps110
      go_wp2_with fail
      refine (right_t l hl w).mono ?_
      rintro e w1 ⟨rfl, hb⟩
      rw [hr]
      go_wp2_with fail
      refine (hx w1).mono ?_
      rintro e w2 ⟨rfl, rfl⟩
      clear hx
      go_wp2
      go_ret
      exact ⟨rfl, hb⟩
/-- the cells of a list of texts of which k are laid -/
def strsA (ls : List (List UInt8)) (k : Nat) : Array Value := ((List.range ls.length).map fun j => Value.string ⟨(if j < k then ls[j]?.getD [] else []).toArray⟩).toArray
/-- a slice that reads as the texts ls -/
def SS (w : World) (v : Value) (ls : List (List UInt8)) : Prop := ∃ p c, v = .slice p ls.length c ∧ ls.length ≤ c ∧ (0 < ls.length → ∃ g o, p = some ⟨g, o, none⟩ ∧ g < w.heap.size ∧ ∀ (j : Nat) x, ls[j]? = some x → w.cell? ⟨g, o + j, none⟩ = some (.string ⟨x.toArray⟩))
theorem SS.later {w w' : World} {v : Value} {ls : List (List UInt8)} (h : SS w v ls) (hb : Below w.heap.size w w') : SS w' v ls := by
  obtain ⟨p, c, rfl, h1, h2⟩ := h
  refine ⟨p, c, rfl, h1, fun h0 => ?_⟩
  obtain ⟨g, o, rfl, h3, h4⟩ := h2 h0
  exact ⟨g, o, rfl, Nat.lt_of_lt_of_le h3 hb.size, fun j x hx => cell_later hb (h4 j x hx)⟩
theorem SS.nil (w : World) : SS w (.slice none 0 0) [] := ⟨none, 0, rfl, Nat.le_refl _, fun h => by cases h⟩
def splE (l : List UInt8) : Int := if rightB l = true then 0 else 3
/-- the answer of Split -/
def SplitPost (l : List UInt8) (w : World) (e : Ending) (w' : World) : Prop := ∃ v, e = .returned (.tuple #[v, .int .i64 (splE l)]) ∧ SS w' v (labsL l) ∧ Below w.heap.size w w'
end Go.Proofs.Ytbekocknfpekoaa
namespace Go.Proofs.Ytbekocknfpekoaa
set_option linter.unusedVariables false
set_option linter.unusedSimpArgs false
open Go.RowKit
attribute [local go_sem] Oper.semAt_some
def jn (ps : List (List UInt8)) : List UInt8 := Lib.join ps [46]
theorem jn_one (p : List UInt8) : jn [p] = p := Lib.join_one p [46]
theorem jn_cons (p : List UInt8) (ps : List (List UInt8)) (h : ps ≠ []) : jn (p :: ps) = p ++ 46 :: jn ps := by
  cases ps with
  | nil => exact absurd rfl h
  | cons q r => unfold jn Lib.join; rw [List.intercalate_cons_cons]; simp
theorem jn_app : ∀ (a b : List (List UInt8)), a ≠ [] → b ≠ [] → jn (a ++ b) = jn a ++ 46 :: jn b
  | [], _, h, _ => absurd rfl h
  | [p], b, _, hb => by rw [List.singleton_append, jn_cons p b hb, jn_one]
  | p :: q :: r, b, _, hb => by
    rw [List.cons_append, jn_cons p ((q :: r) ++ b) (by simp), jn_app (q :: r) b (by simp) hb, jn_cons p (q :: r) (by simp)]
    simp
theorem jn_split : ∀ (l : List UInt8), jn (splitD l) = l
  | [] => by rw [splitD]; exact jn_one []
  | c :: r => by
    have ih := jn_split r
    rw [splitD]
    by_cases h : c = 46
    · rw [if_pos h, jn_cons [] _ (splitD_ne r), ih, h]; rfl
    · rw [if_neg h]
      cases hs : splitD r with
      | nil => exact absurd hs (splitD_ne r)
      | cons a t =>
        rw [hs] at ih
        cases t with
        | nil => rw [jn_one] at ih ⊢; simp [ih]
        | cons b t => rw [jn_cons _ _ (by simp)] at ih ⊢; simp [ih]
theorem jn_parts (l : List UInt8) : jn (partsL l) = l := by
  unfold partsL
  split
  · rename_i h; subst h; rfl
  · exact jn_split l
/-- the places that k parts and a period behind each take -/
def endN (ps : List (List UInt8)) (k : Nat) : Nat := ((ps.take k).map fun p => p.length + 1).sum
theorem endN_succ (ps : List (List UInt8)) (k : Nat) (h : k < ps.length) : endN ps (k + 1) = endN ps k + ((ps[k]?.getD []).length + 1) := by
  unfold endN
  rw [List.take_add_one, List.getElem?_eq_getElem h, List.map_append, List.sum_append]
  simp only [Option.toList_some, List.map_cons, List.map_nil, List.sum_cons, List.sum_nil, Option.getD_some]
  omega
theorem jn_len : ∀ (a : List (List UInt8)), a ≠ [] → (jn a).length + 1 = (a.map fun p => p.length + 1).sum
  | [], h => absurd rfl h
  | [p], _ => by rw [jn_one]; simp
  | p :: q :: r, _ => by
    have ih := jn_len (q :: r) (by simp)
    rw [jn_cons p (q :: r) (by simp), List.map_cons, List.sum_cons, ← ih]
    simp; omega
theorem endN_len (ps : List (List UInt8)) (k : Nat) (h1 : 1 ≤ k) (h2 : ps ≠ []) : (jn (ps.take k)).length + 1 = endN ps k := jn_len _ (by cases ps <;> cases k <;> simp_all)
theorem endN_take (ps : List (List UInt8)) (k : Nat) (h1 : 1 ≤ k) (h2 : k < ps.length) : (jn ps).take (jn (ps.take k)).length = jn (ps.take k) := by
  have ha : ps.take k ≠ [] := by cases ps <;> cases k <;> simp_all
  have hb : ps.drop k ≠ [] := by simp; omega
  have := jn_app (ps.take k) (ps.drop k) ha hb
  rw [List.take_append_drop] at this
  rw [this, List.take_left]
theorem jn_take_len (ps : List (List UInt8)) (k : Nat) (h1 : 1 ≤ k) (h2 : k < ps.length) : (jn (ps.take k)).length ≤ (jn ps).length := by
  rw [← endN_take ps k h1 h2, List.length_take]; omega
theorem endN_le (ps : List (List UInt8)) (k : Nat) (h : k ≤ ps.length) : endN ps k ≤ (jn ps).length + 1 := by
  rcases Nat.eq_zero_or_pos k with rfl | hk
  · simp [endN]
  · have h2 : ps ≠ [] := by intro e; subst e; simp at h; omega
    rw [← endN_len ps k hk h2]
    rcases Nat.lt_or_ge k ps.length with hlt | hge
    · have := jn_take_len ps k hk hlt; omega
    · rw [List.take_of_length_le hge]; exact Nat.le_refl _
/-- the first n labels of a path -/
def topL (l : List UInt8) (n : Int) : List UInt8 := jn ((labsL l).take n.toNat)
set_option maxRecDepth 100000 in
set_option maxHeartbeats 2000000 in
theorem top_t (l : List UInt8) (hl : l.length ≤ 140737488355328) (n : Int) (w : World) : Calls Try.prog 106 #[.string ⟨l.toArray⟩, .int .i64 n] w fun e w' => e = .returned (.string ⟨(topL l n).toArray⟩) ∧ Below w.heap.size w w' := by
  refine (callsIn_wide (n := 3)).1 ?_
  refine callsIn_of_wp_marks Try.func106 rfl trivial ?_ rfl
  simp only [Try.ntmps106, List.size_toArray, List.length_cons, List.length_nil, Nat.reduceAdd, Nat.reduceSub, Array.replicate_succ, Array.replicate_zero, List.push_toArray, List.append_toArray, List.nil_append, List.cons_append]
  by_cases hn : n < 1
  · have HT : topL l n = [] := by unfold topL; rw [show n.toNat = 0 by omega]; rfl
    rw [HT]
    clear HT
    gi_wp2
    refine ⟨trivial, ?_⟩
    gi_wp2
    exact ⟨.string ⟨#[]⟩, by simp only [results, Try.results106]; simp [go_sem], rfl, (by repeat (first | exact Below.refl _ _ | assumption | (with_reducible refine Below.setCell ?_ ?h _; case h => first | omega | (simp; done) | (simp; omega)) | (with_reducible refine Below.alloc ?_ ?h _; case h => first | omega | (simp; done) | (simp; omega)) | (with_reducible refine Below.drew ?_) | (with_reducible refine Below.trans ?_ (hb4.mono ?h); case h => first | omega | (simp; done) | (simp; omega)) | (with_reducible refine Below.trans ?_ (hb3.mono ?h); case h => first | omega | (simp; done) | (simp; omega)) | (with_reducible refine Below.trans ?_ (hb2.mono ?h); case h => first | omega | (simp; done) | (simp; omega)) | (with_reducible refine Below.trans ?_ (hb.mono ?h); case h => first | omega | (simp; done) | (simp; omega)) | (with_reducible refine Below.trans ?_ (hb0.mono ?h); case h => first | omega | (simp; done) | (simp; omega))))⟩
  · have hn1 : ¬ n < 1 := hn
    have P0 : Row (((w.alloc (.cells #[.string ⟨l.toArray⟩] 9)).alloc (.cells #[.int .i64 n] 3)).alloc (.cells #[.string ⟨#[]⟩] 9)) w.heap.size #[.string ⟨l.toArray⟩] 9 := ((Row.new w _ _).alloc _).alloc _
    have P1 : Row (((w.alloc (.cells #[.string ⟨l.toArray⟩] 9)).alloc (.cells #[.int .i64 n] 3)).alloc (.cells #[.string ⟨#[]⟩] 9)) (w.heap.size + 1) #[.int .i64 n] 3 := by
      have h := (Row.new (w.alloc (.cells #[.string ⟨l.toArray⟩] 9)) #[.int .i64 n] 3).alloc (.cells #[.string ⟨#[]⟩] 9)
      rwa [World.size_alloc] at h
    have P2 : Row (((w.alloc (.cells #[.string ⟨l.toArray⟩] 9)).alloc (.cells #[.int .i64 n] 3)).alloc (.cells #[.string ⟨#[]⟩] 9)) (w.heap.size + 1 + 1) #[.string ⟨#[]⟩] 9 := by
      have h := Row.new ((w.alloc (.cells #[.string ⟨l.toArray⟩] 9)).alloc (.cells #[.int .i64 n] 3)) #[.string ⟨#[]⟩] 9
      rwa [World.size_alloc, World.size_alloc] at h
    have hb0 : Below w.heap.size w (((w.alloc (.cells #[.string ⟨l.toArray⟩] 9)).alloc (.cells #[.int .i64 n] 3)).alloc (.cells #[.string ⟨#[]⟩] 9)) := (by repeat (first | exact Below.refl _ _ | assumption | (with_reducible refine Below.setCell ?_ ?h _; case h => first | omega | (simp; done) | (simp; omega)) | (with_reducible refine Below.alloc ?_ ?h _; case h => first | omega | (simp; done) | (simp; omega)) | (with_reducible refine Below.drew ?_) | (with_reducible refine Below.trans ?_ (hb4.mono ?h); case h => first | omega | (simp; done) | (simp; omega)) | (with_reducible refine Below.trans ?_ (hb3.mono ?h); case h => first | omega | (simp; done) | (simp; omega)) | (with_reducible refine Below.trans ?_ (hb2.mono ?h); case h => first | omega | (simp; done) | (simp; omega)) | (with_reducible refine Below.trans ?_ (hb.mono ?h); case h => first | omega | (simp; done) | (simp; omega)) | (with_reducible refine Below.trans ?_ (hb0.mono ?h); case h => first | omega | (simp; done) | (simp; omega))))
    gi_wp2
    generalize ((w.alloc (.cells #[.string ⟨l.toArray⟩] 9)).alloc (.cells #[.int .i64 n] 3)).alloc (.cells #[.string ⟨#[]⟩] 9) = w0 at *
    refine ⟨trivial, (callsIn_wide.2 (right_t l hl w0)).mono ?_⟩
    rintro e w1 ⟨rfl, hb1⟩
    replace P0 := P0.later hb1
    replace P1 := P1.later hb1
    replace P2 := P2.later hb1
    have hbw := below_step hb0 hb1
    clear hb0 hb1
    have c0 := (P0.cell 0).trans (show _ = some (Value.string ⟨l.toArray⟩) from rfl)
    have c1 := (P1.cell 0).trans (show _ = some (Value.int .i64 n) from rfl)
    have c2 := (P2.cell 0).trans (show _ = some (Value.string ⟨#[]⟩) from rfl)
    have f2 := P2.frozen 0
    cases hr : rightB l with
    | false =>
      have HT : topL l n = [] := by unfold topL labsL; rw [hr]; simp; rfl
      have HTT := Lib.hid HT
      have HP2 := Lib.hid P2
      clear HT hr P0 P1 P2
      gi_wp2
      refine ⟨.string ⟨#[]⟩, ?_, by rw [HTT.out], hbw.setCell (by dsimp only; omega) _⟩
      have hc5 := ((HP2.out.set 0 (.string ⟨#[]⟩)).cell 0).trans (show _ = some (Value.string ⟨#[]⟩) from rfl)
      simp only [results, Try.results106]
      simp [go_sem, hc5]
    | true =>
      have HL : labsL l = partsL l := by unfold labsL; rw [hr]; simp
      have HTT := Lib.hid (show topL l n = jn ((partsL l).take n.toNat) by unfold topL; rw [HL])
      have hjp := jn_parts l
      have Q0 := (P0.alloc (.cells #[.int .i64 0] 3)).alloc (.cells #[.string ⟨l.toArray⟩] 9)
      have Q1 := (P1.alloc (.cells #[.int .i64 0] 3)).alloc (.cells #[.string ⟨l.toArray⟩] 9)
      have Q2 := (P2.alloc (.cells #[.int .i64 0] 3)).alloc (.cells #[.string ⟨l.toArray⟩] 9)
      have Q3 := (Row.new w1 #[.int .i64 0] 3).alloc (.cells #[.string ⟨l.toArray⟩] 9)
      have Q4 := Row.new (w1.alloc (.cells #[.int .i64 0] 3)) #[.string ⟨l.toArray⟩] 9
      rw [World.size_alloc] at Q4
      have hb4 : Below w.heap.size w ((w1.alloc (.cells #[.int .i64 0] 3)).alloc (.cells #[.string ⟨l.toArray⟩] 9)) := (hbw.alloc hbw.size _).alloc (by have := hbw.size; simp; omega) _
      have d0 := ((P0.alloc (.cells #[.int .i64 0] 3)).cell 0).trans (show _ = some (Value.string ⟨l.toArray⟩) from rfl)
      have l2 := P2.lt
      have HH := Lib.hid (And.intro Q0 (And.intro Q1 (And.intro Q2 (And.intro Q3 (And.intro Q4 hb4)))))
      have hle := Lib.hid (endN_le (partsL l))
      have hes := Lib.hid (endN_succ (partsL l))
      have hel := Lib.hid (endN_len (partsL l))
      have het := Lib.hid (endN_take (partsL l))
      have hbl := Lib.hid (jn_take_len (partsL l))
      have hpf : ∀ k, partF l k = #[.int .i64 k, .string ⟨((partsL l)[k]?.getD []).toArray⟩] := fun _ => rfl
      have hpl := Lib.hid (part_len l)
      have hit := Lib.hid (parts1_in l hl)
      clear HL hr P0 P1 P2 c0 c1 c2 f2 Q0 Q1 Q2 Q3 Q4 hb4
      gi_wp2
      refine ⟨trivial, (callsIn_wide.2 (parts_t _ _)).mono ?_⟩
      rintro e w3 ⟨rfl, rfl⟩
      clear d0
      gi_wp2
      obtain ⟨Q0, Q1, Q2, Q3, Q4, hb4⟩ := HH.out
      generalize (w1.alloc (.cells #[.int .i64 0] 3)).alloc (.cells #[.string ⟨l.toArray⟩] 9) = w4 at *
      generalize partsL l = ps at *
      have hs0 : w.heap.size ≤ w4.heap.size := hb4.size
      have hg2 : w.heap.size + 1 + 1 < w1.heap.size := l2
      clear HH l2 hbw
      generalize w1.heap.size = g at *
      refine wpIn_rangeN rfl (by omega) (gf := 114) (lb := #[.pointer (some ⟨g + 1, 0, none⟩)]) rfl trivial (enters_of Try.func114 (by kernel_rfl) rfl)
        (hit.out _ (g + 1) w4 ((Q4.cell 0).trans rfl) Q4.lt) (fun _ _ => trivial) (fun _ _ _ _ _ _ _ _ => trivial) (Below.refl _ _) (fun _ => rfl)
        (fun k W => ((k : Int) ≤ n ∧ Row W w.heap.size #[.string ⟨l.toArray⟩] 9 ∧ Row W (w.heap.size + 1) #[.int .i64 n] 3 ∧ Row W (w.heap.size + 1 + 1) #[.string ⟨#[]⟩] 9 ∧ Row W g #[.int .i64 (endN ps k : Nat)] 3) ∧ Below w.heap.size w W)
        (fun c _ W => (c = .ret ∧ Row W (w.heap.size + 1 + 1) #[.string ⟨(topL l n).toArray⟩] 9) ∧ Below w.heap.size w W)
        (OwnFrom.and (Own.from (fun s A B row hs hg hr => ⟨hs.1, row_kept hs.2.1 hg hr, row_kept hs.2.2.1 hg hr, row_kept hs.2.2.2.1 hg hr, row_kept hs.2.2.2.2 hg hr⟩) _) (ownFrom_below (Nat.le_refl _) hs0))
        (fun c => OwnFrom.and (Own.from (fun s A B row hs hg hr => ⟨hs.1, row_kept hs.2 hg hr⟩) _) (ownFrom_below (Nat.le_refl _) hs0))
        ⟨⟨by omega, Q0, Q1, Q2, Q3⟩, hb4⟩
        (fun k => { tmps := #[.string ⟨l.toArray⟩, .int .i64 n, .pointer (some ⟨w.heap.size, 0, none⟩), .pointer (some ⟨w.heap.size + 1, 0, none⟩), .pointer (some ⟨w.heap.size + 1 + 1, 0, none⟩), .pointer (some ⟨g, 0, none⟩), .int .i64 k, .string ⟨(ps[k]?.getD []).toArray⟩, .int .i64 n, .bool false, .bool false, .string ⟨l.toArray⟩, .bool true, .bool false, .bool false, .string ⟨l.toArray⟩, .func (.func 114) #[] #[.pointer (some ⟨g + 1, 0, none⟩)], .int .i64 k, .string ⟨(ps[k]?.getD []).toArray⟩, undef, undef, undef, undef, undef, undef, undef, undef, undef, undef, undef, undef, undef], defers := [] }) ?assign ?body ?done ?stop
      case assign =>
        intro i k W K hK
        rw [hpf]
        gi_wp2
        exact hK
      case body =>
        rintro i k W hkN ⟨⟨hkn, R0, R1, R2, R3⟩, hB⟩
        have c0 := (R0.cell 0).trans (show _ = some (Value.string ⟨l.toArray⟩) from rfl)
        have c1 := (R1.cell 0).trans (show _ = some (Value.int .i64 n) from rfl)
        have c2 := (R2.cell 0).trans (show _ = some (Value.string ⟨#[]⟩) from rfl)
        have c3 := (R3.cell 0).trans (show _ = some (Value.int .i64 (endN ps k : Nat)) from rfl)
        have f2 := R2.frozen 0
        have f3 := R3.frozen 0
        have HR := Lib.hid (And.intro R0 (And.intro R1 (And.intro R2 (And.intro R3 hB))))
        clear R0 R1 R2 R3 hB Q0 Q1 Q2 Q3 Q4 hb4 hit hpf
        by_cases hk : (k : Int) = n
        · subst hk
          have hk1 : 1 ≤ k := by omega
          have hps : ps ≠ [] := by intro e; subst e; simp at hkN
          have e1 := hel.out k hk1 hps
          have e2 := het.out k hk1 hkN
          have e3 := hbl.out k hk1 hkN
          have hT := HTT.out
          rw [Int.toNat_natCast] at hT
          rw [hjp] at e2 e3
          rw [← e1] at c3
          have HF := Lib.hid hT
          clear e1 hT HTT hle hes hel het hbl hpl
          generalize jn (ps.take k) = q at *
          have hx : (⟨l.toArray⟩ : ByteArray).extract 0 q.length = ⟨q.toArray⟩ := by rw [ext_l, e2, List.drop_zero]
          have hsz := bs_size l
          generalize q.length = m at *
          clear e2
          gi_wp2
          refine ⟨(KeepsOthers.setCell _ _ _).from _, ⟨rfl, ?_⟩, HR.out.2.2.2.2.setCell (by dsimp only; omega) _⟩
          rw [HF.out]
          exact HR.out.2.2.1.set 0 (.string ⟨q.toArray⟩)
        · have hk' : ((k : Int) == n) = false := by simp; exact hk
          have e1 := hes.out k hkN
          have e2 := hle.out (k + 1) hkN
          have e3 := hpl.out k
          rw [hjp] at e2
          generalize ps[k]?.getD [] = q at *
          have hE := Lib.hid e1
          have hsz := bs_size q
          have hb1 : endN ps k ≤ 140737488355329 := by omega
          clear hes hle hel het hbl hpl HTT e1
          generalize hEE : endN ps k = E at *
          have HEE := Lib.hid hEE
          clear hEE
          gi_wp2
          refine ⟨(KeepsOthers.setCell _ _ _).from _, trivial, ⟨by omega, HR.out.1.set_far _ _ (by dsimp only; omega), HR.out.2.1.set_far _ _ (by dsimp only; omega), HR.out.2.2.1.set_far _ _ (by dsimp only; omega), ?_⟩, HR.out.2.2.2.2.setCell (by dsimp only; omega) _⟩
          rw [hE.out]
          have := HR.out.2.2.2.1.set 0 (.int .i64 ((E : Int) + ((q.length : Int) + 1)))
          simpa using this
      case done =>
        rintro D W hD ⟨⟨hkn, R0, R1, R2, R3⟩, hB⟩ hK
        have c0 := (R0.cell 0).trans (show _ = some (Value.string ⟨l.toArray⟩) from rfl)
        have c2 := (R2.cell 0).trans (show _ = some (Value.string ⟨#[]⟩) from rfl)
        have f2 := R2.frozen 0
        have hT := HTT.out
        rw [List.take_of_length_le (by omega), hjp] at hT
        have HF := Lib.hid hT
        have HR := Lib.hid R2
        clear hT HTT hle hes hel het hbl hpl Q0 Q1 Q2 Q3 Q4 hb4 hit hpf R0 R1 R2 R3
        gi_wp2
        have hK' := (KeepsOthers.setCell W ⟨w.heap.size + 1 + 1, 0, none⟩ (.string ⟨l.toArray⟩)).same D _ hK rfl
        refine ⟨by simp, .inl ⟨_, _, rfl, run_takeDeferred hK', ?_⟩⟩
        have hc5 := ((row_put (HR.out.set 0 (.string ⟨l.toArray⟩)) (.deferred none) hK' rfl).cell 0).trans (show _ = some (Value.string ⟨l.toArray⟩) from rfl)
        refine ⟨.string ⟨l.toArray⟩, ?_, by rw [HF.out], (hB.setCell (p := ⟨w.heap.size + 1 + 1, 0, none⟩) (by dsimp only; omega) _).trans (belowK_b (w := w) (Nat.le_refl _) _ D _ _ (by omega) hK' rfl rfl)⟩
        simp only [results, Try.results106]
        simp [go_sem, hc5]
      case stop =>
        rintro D c k W hD _ ⟨⟨rfl, R2⟩, hB⟩ hK
        gi_wp2
        refine ⟨by simp, .inl ⟨_, _, rfl, run_takeDeferred hK, ?_⟩⟩
        have hc5 := ((row_put R2 (.deferred none) hK rfl).cell 0).trans (show _ = some (Value.string ⟨(topL l n).toArray⟩) from rfl)
        refine ⟨.string ⟨(topL l n).toArray⟩, ?_, rfl, hB.trans (belowK_b (w := w) (Nat.le_refl _) W D _ _ (by omega) hK rfl rfl)⟩
        simp only [results, Try.results106]
        simp [go_sem, hc5]
end Go.Proofs.Ytbekocknfpekoaa
namespace Go.Proofs.Ytbekocknfpekoaa
set_option linter.unusedVariables false
set_option linter.unusedSimpArgs false
open Go.RowKit
/-- how many leading elements two lists have in common -/
def sameN : List (List UInt8) → List (List UInt8) → Nat
  | x :: a, y :: b => if x = y then sameN a b + 1 else 0
  | _, _ => 0
theorem str_eq (x y : List UInt8) : (⟨x.toArray⟩ : ByteArray) = ⟨y.toArray⟩ ↔ x = y := by
  constructor
  · intro h
    have := congrArg (fun b : ByteArray => b.data.toList) h
    simpa using this
  · rintro rfl; rfl
def joinE (ls : List (List UInt8)) : Int := if ls.all labB = false then 3 else if 8 < ls.length then 2 else 0
def joinT (ls : List (List UInt8)) : List UInt8 := if joinE ls = 0 then jn ls else []
theorem labB_len {x : List UInt8} (h : labB x = true) : x.length ≤ 16 := by unfold labB at h; simp at h; exact h.2
theorem jn_bound : ∀ (ls : List (List UInt8)), (∀ x ∈ ls, x.length ≤ 16) → (jn ls).length ≤ 17 * ls.length
  | [], _ => by simp [jn, Lib.join]
  | [x], h => by rw [jn_one]; have := h x (by simp); simp; omega
  | x :: y :: r, h => by
    have ih := jn_bound (y :: r) (fun z hz => h z (List.mem_cons_of_mem _ hz))
    have := h x (by simp)
    rw [jn_cons x (y :: r) (by simp)]
    simp at ih ⊢; omega
end Go.Proofs.Ytbekocknfpekoaa
namespace Go.Proofs.Ytbekocknfpekoaa
set_option linter.unusedVariables false
set_option linter.unusedSimpArgs false
open Go.RowKit
theorem labB_no46 {x : List UInt8} (h : labB x = true) : (46 : UInt8) ∉ x := by
  unfold labB at h
  simp at h
  intro hm
  have := h.1.1 46 hm
  exact absurd this (by decide)
theorem labB_ne {x : List UInt8} (h : labB x = true) : x ≠ [] := by unfold labB at h; simp at h; exact h.1.2
theorem split_jn : ∀ (ls : List (List UInt8)), ls ≠ [] → (∀ x ∈ ls, labB x = true) → splitD (jn ls) = ls
  | [], h, _ => absurd rfl h
  | [x], _, h => by rw [jn_one]; exact splitD_no x (labB_no46 (h x (by simp)))
  | x :: y :: r, _, h => by
    rw [jn_cons x (y :: r) (by simp), splitD_at x _ (labB_no46 (h x (by simp))), split_jn (y :: r) (by simp) (fun z hz => h z (List.mem_cons_of_mem _ hz))]
theorem jn_ne {ls : List (List UInt8)} (h : ls ≠ []) (hl : ∀ x ∈ ls, labB x = true) : jn ls ≠ [] := by
  cases ls with
  | nil => exact absurd rfl h
  | cons x r =>
    have hx := labB_ne (hl x (by simp))
    cases r with
    | nil => rw [jn_one]; exact hx
    | cons y r => rw [jn_cons x (y :: r) (by simp)]; simp
theorem parts_jn {ls : List (List UInt8)} (hl : ∀ x ∈ ls, labB x = true) : partsL (jn ls) = ls := by
  unfold partsL
  by_cases h : ls = []
  · subst h; rfl
  · rw [if_neg (jn_ne h hl), split_jn ls h hl]
theorem right_jn {ls : List (List UInt8)} (hl : ∀ x ∈ ls, labB x = true) (h8 : ls.length ≤ 8) : rightB (jn ls) = true := by
  unfold rightB
  rw [parts_jn hl]
  simp [h8]
  exact hl
theorem labs_jn {ls : List (List UInt8)} (hl : ∀ x ∈ ls, labB x = true) (h8 : ls.length ≤ 8) : labsL (jn ls) = ls := by
  unfold labsL
  rw [if_pos (right_jn hl h8), parts_jn hl]
theorem labs_all (l : List UInt8) : ∀ x ∈ labsL l, labB x = true := by
  unfold labsL
  split
  · rename_i h; unfold rightB at h; simp at h; exact h.2
  · intro x hx; cases hx
theorem labs_take_all (l : List UInt8) (n : Nat) : ∀ x ∈ (labsL l).take n, labB x = true := fun x hx => labs_all l x (List.mem_of_mem_take hx)
theorem labs_top (l : List UInt8) (n : Int) : labsL (topL l n) = (labsL l).take n.toNat := labs_jn (labs_take_all l _) (by have := labsL_len l; rw [List.length_take]; omega)
theorem right_top (l : List UInt8) (n : Int) : rightB (topL l n) = true := right_jn (labs_take_all l _) (by have := labsL_len l; rw [List.length_take]; omega)
theorem jn_labs {l : List UInt8} (h : rightB l = true) : jn (labsL l) = l := by unfold labsL; rw [if_pos h, jn_parts]
theorem top_len (l : List UInt8) (n : Int) : (topL l n).length ≤ 140737488355328 := by
  have h := jn_bound ((labsL l).take n.toNat) (fun x hx => labB_len (labs_take_all l _ x hx))
  have := labsL_len l
  rw [List.length_take] at h
  unfold topL
  omega
end Go.Proofs.Ytbekocknfpekoaa
namespace Go.Proofs.Ytbekocknfpekoaa
set_option linter.unusedVariables false
set_option linter.unusedSimpArgs false
open Go.RowKit
def valsS (ls : List (List UInt8)) : List Value := ls.map fun x => Value.string ⟨x.toArray⟩
theorem valsS_length (ls : List (List UInt8)) : (valsS ls).length = ls.length := by simp [valsS]
theorem valsS_one (ls : List (List UInt8)) : ∀ x ∈ valsS ls, x.oneCell' = true := by
  intro x hx
  unfold valsS at hx
  obtain ⟨a, _, rfl⟩ := List.mem_map.1 hx
  rfl
/-- the value v, a slice, is a row of its own from block base on, and reads as the texts ls -/
def OwnS (base : Nat) (w : World) (v : Value) (ls : List (List UInt8)) : Prop := w.ownsRow base 9 1 v ls.length (valsS ls)
theorem OwnS.later {base : Nat} {w w' : World} {v : Value} {l : List (List UInt8)} (h : OwnS base w v l) (hb : Below w.heap.size w w') : OwnS base w' v l := by
  obtain ⟨hl, h⟩ := h
  refine ⟨hl, ?_⟩
  rcases h with h | ⟨g, cap, cur, hv, hbs, hg, h1⟩
  · exact .inl h
  · exact .inr ⟨g, cap, cur, hv, hbs, (Row.later (t := 9) hg hb), h1⟩
theorem OwnS.block {base : Nat} {w : World} {v : Value} {l : List (List UInt8)} (h : OwnS base w v l) (g : Nat) (hg : v.ownBlock = some g) : base ≤ g ∧ g < w.heap.size := by
  rcases h.2 with ⟨rfl, _⟩ | ⟨g', cap, cur, rfl, hbs, hr, _⟩
  · cases hg
  · have : g' = g := by simpa [Value.ownBlock] using hg
    subst this
    exact ⟨hbs, Row.lt (t := 9) hr⟩
theorem OwnS.nil (base : Nat) (w : World) : OwnS base w (.slice none 0 0) [] := ⟨rfl, .inl ⟨rfl, rfl⟩⟩
theorem OwnS.read {base : Nat} {w : World} {v : Value} {l : List (List UInt8)} (h : OwnS base w v l) : SS w v l := by
  obtain ⟨hl, h⟩ := h
  rcases h with ⟨rfl, h0⟩ | ⟨g, cap, cur, rfl, hb, hg, h1, h2, h3, h4⟩
  · exact ⟨none, 0, by rw [h0], by omega, fun h => by omega⟩
  · refine ⟨_, cap, rfl, by omega, fun _ => ⟨g, 0, rfl, Row.lt (t := 9) hg, fun j x hx => ?_⟩⟩
    rw [Nat.zero_add, cell_of_row w g j cur _ _ hg, ← Array.getElem?_toList]
    have hj : j < l.length := by rw [List.getElem?_eq_some_iff] at hx; exact hx.1
    have : (valsS l)[j]? = some (.string ⟨x.toArray⟩) := by unfold valsS; rw [List.getElem?_map, hx]; rfl
    rw [← h4, List.getElem?_take, if_pos (by omega)] at this
    exact this
theorem infoS : ∃ i, Try.prog.info? 9 = some i ∧ i.zero = some (.string ⟨#[]⟩) ∧ i.size = 1 ∧ i.bytes = 16 := by
  have h1 : (Try.prog.info? 9).bind (·.zero) = some (.string ⟨#[]⟩) := by kernel_rfl
  have h2 : (Try.prog.info? 9).map (·.size) = some 1 := by kernel_rfl
  have h3 : (Try.prog.info? 9).map (·.bytes) = some 16 := by kernel_rfl
  cases hq : Try.prog.info? 9 with
  | none => rw [hq] at h2; cases h2
  | some i =>
    rw [hq] at h1 h2 h3
    exact ⟨i, rfl, by simpa using h1, by simpa using h2, by simpa using h3⟩
theorem appS_run {base : Nat} {w : World} {v : Value} {l m : List (List UInt8)} (ty : TypeId) (ho : OwnS base w v l) (gs c : Nat) (hsrc : ∀ (j : Nat) x, m[j]? = some x → w.cell? ⟨gs, j, none⟩ = some (.string ⟨x.toArray⟩)) (hl : l.length + m.length ≤ 2147483647) (hbase : base ≤ w.heap.size) :
    ∃ v' w', (Builtin.append_ #[107, 107] ty #[v, .slice (some ⟨gs, 0, none⟩) m.length c]).run Try.prog w = .ok v' w' ∧ OwnS base w' v' (l ++ m) ∧ w.grownBy w' v.ownBlock := by
  obtain ⟨i, i1, i2, i3, i4⟩ := infoS
  have hs : ∀ j u, (valsS m)[j]? = some u → w.cell? ((⟨gs, 0, none⟩ : Addr).add j) = some u := by
    intro j u hu
    unfold valsS at hu
    rw [List.getElem?_map, Option.map_eq_some_iff] at hu
    obtain ⟨x, hx, rfl⟩ := hu
    rw [Addr.add_mid, Nat.zero_add]
    exact hsrc j x hx
  obtain ⟨v', w', hr, k1, k2, _, k4⟩ := run_append_own_at (P := Try.prog) w base 107 ty 9 i (.string ⟨#[]⟩) 1 16 Try.underlying107 i1 i2 i3 i4 rfl (by decide) v l.length (valsS l) ho ⟨gs, 0, none⟩ m.length c (valsS m) (by rw [valsS_length, Nat.mul_one]) hs (valsS_one m) (by unfold maxLen; omega) (by omega) hbase
  refine ⟨v', w', hr, ?_, k2⟩
  have hbm : valsS (l ++ m) = valsS l ++ valsS m := by unfold valsS; rw [List.map_append]
  unfold OwnS
  rw [List.length_append, hbm]
  exact k1
/-- one text appended that lies in a new block -/
theorem appS_one {base : Nat} {w0 w : World} {v : Value} {l : List (List UInt8)} (x : List UInt8) (ho : OwnS base w v l) (hB : Below base w0 w) (hl : l.length ≤ 2147483600) (hbase : base ≤ w.heap.size) :
    ∃ v' w', (Builtin.append_ #[107, 107] 107 #[v, .slice (some ⟨w.heap.size, 0, none⟩) 1 1]).run Try.prog (w.alloc (.cells #[.string ⟨x.toArray⟩] 9)) = .ok v' w' ∧ OwnS base w' v' (l ++ [x]) ∧ Below base w0 w' := by
  have R1 := Row.new w #[.string ⟨x.toArray⟩] 9
  have hbn : Below w.heap.size w (w.alloc (.cells #[.string ⟨x.toArray⟩] 9)) := (Below.refl _ _).alloc (Nat.le_refl _) _
  obtain ⟨v', w2, hrun, hown, hgrow⟩ := appS_run (m := [x]) 107 (ho.later hbn) w.heap.size 1 (fun j y hy => by
    rcases j with _ | j
    · cases hy; exact (R1.cell 0).trans rfl
    · simp at hy) (by simp; omega) (Nat.le_trans hbase hbn.size)
  exact ⟨v', w2, hrun, hown, (hB.trans (hbn.mono hbase)).grown hgrow (Nat.le_trans hbase hbn.size) (fun k hk => ((ho.later hbn).block _ hk).1)⟩
theorem wp_appS {P : Program} {w w' : World} {o : Oper} {a : Act} {K : Act → World → Prop} {Q : Exit → Act → World → Prop} (s x : Operand) (t : TypeId) {v bv v' : Value}
    (ho : o.op = .call { callee := .builtin .append, args := #[s, x], argTypes := #[t, t] }) (hs : a.eval s = v) (hx : a.eval x = bv)
    (hr : (Builtin.append_ #[t, t] o.type #[v, bv]).run P w = .ok v' w') (h : K (a.put o.dst v') w') : o.wp P a w K Q := by
  unfold Oper.wp execOp
  simp only [ho, resolve, invoke, builtin, Sem.run_bind, Sem.run_pure, Result.andThen_ok, List.map_toArray, List.map_cons, List.map_nil, hs, hx, hr]
  exact h
theorem wpList_appS {P : Program} {w w' : World} {ops : Array Oper} {rest : List Oper} {o : Oper} {a : Act} {Q : Exit → Act → World → Prop} (hg : o.guard = none) (s x : Operand) (t : TypeId) (hop : o.op = .call { callee := .builtin .append, args := #[s, x], argTypes := #[t, t] })
    {v bv v' : Value} (hs : a.eval s = v) (hx : a.eval x = bv) (hr : (Builtin.append_ #[t, t] o.type #[v, bv]).run P w = .ok v' w') (hK : wpList P ops Q rest (a.put o.dst v') w') : wpList P ops Q (o :: rest) a w := by
  refine wpList_plain hg fun K hK' => ?_
  exact wp_appS s x t hop hs hx hr (hK' _ _ hK)
/-! the reference's IsLabel -/
theorem memB_bad {l : List UInt8} {j : Nat} (hj : j < l.length) (h : memB l[j] = false) : labB l = false := labB_bad hj (.inr h)
set_option maxHeartbeats 4000000 in
theorem rIsLabel_t (l : List UInt8) (hl : l.length ≤ 140737488355328) (w : World) : Calls Try.prog 111 #[.string ⟨l.toArray⟩] w fun e w' => e = .returned (.bool (labB l)) ∧ w = w' := by
  have hsz := bs_size l
  go_enter Try.func111, Try.ntmps111
  go_wp2_with fail
  go_loopw [3] (fun i wr => ∃ (j : Nat), j ≤ l.length ∧ i = .int .i64 j ∧ Hid (∀ i (hi : i < j) (hl : i < l.length), memB l[i] = true) ∧ wr = w) (fun i _ => l.length - (intOf i).toNat)
  case atStart => exact ⟨0, by omega, rfl, Lib.hid (fun i hi => by omega), rfl⟩
  case round =>
    obtain ⟨j, hj, rfl, hm, rfl⟩ := hrel
    by_cases hlt : j < l.length
    · obtain ⟨c, hlj⟩ : ∃ c, l[j] = c := ⟨_, rfl⟩
      have hsp : j < (⟨l.toArray⟩ : ByteArray).size := by rw [hsz]; exact hlt
      have hch : (⟨l.toArray⟩ : ByteArray)[j]'hsp = c := hlj
      have hcn : c.toNat < 256 := c.toNat_lt
      have HT := Lib.hid (show memB c = true → ∀ i (hi : i < j + 1) (hl : i < l.length), memB l[i] = true from fun hmb i hi hl => by
          by_cases e : i = j
          · subst e; rw [hlj]; exact hmb
          · exact hm.out i (by omega) hl)
      have HF := Lib.hid (show memB c = false → labB l = false from fun h => memB_bad hlt (by rw [hlj]; exact h))
      clear hm hlj
      have hcase : (97 ≤ c.toNat ∧ c.toNat ≤ 122) ∨ (48 ≤ c.toNat ∧ c.toNat ≤ 57) ∨ c.toNat = 95 ∨ (122 < c.toNat) ∨ (c.toNat < 48) ∨ (57 < c.toNat ∧ c.toNat < 97 ∧ c.toNat ≠ 95) := by omega
      have hmb : memB c = ((decide (97 ≤ c.toNat) && decide (c.toNat ≤ 122)) || (decide (48 ≤ c.toNat) && decide (c.toNat ≤ 57)) || decide (c.toNat = 95)) := rfl
      rcases hcase with ⟨h1, h2⟩ | ⟨h1, h2⟩ | h1 | h1 | h1 | ⟨h1, h2, h3⟩
      · have HN := Lib.hid (HT.out (by rw [hmb]; simp [h1, h2]))
        have h1' : (97 : Int) ≤ c.toNat := by omega
        have h2' : (c.toNat : Int) ≤ 122 := by omega
        clear HT HF hmb
        go_wp2
        exact ⟨⟨j + 1, by omega, by go_num, HN, trivial⟩, by simp [intOf]; omega⟩
      · have HN := Lib.hid (HT.out (by rw [hmb]; simp [h1, h2]))
        have h1' : (48 : Int) ≤ c.toNat := by omega
        have h2' : (c.toNat : Int) ≤ 57 := by omega
        have h3' : ¬ (97 : Int) ≤ c.toNat := by omega
        clear HT HF hmb
        go_wp2
        exact ⟨⟨j + 1, by omega, by go_num, HN, trivial⟩, by simp [intOf]; omega⟩
      · have HN := Lib.hid (HT.out (by rw [hmb]; simp [h1]))
        have h3' : ¬ (97 : Int) ≤ c.toNat := by omega
        have h4' : (48 : Int) ≤ c.toNat := by omega
        have h5' : ¬ (c.toNat : Int) ≤ 57 := by omega
        have h6' : ((c.toNat : Int) == 95) = true := by simp; omega
        have h7' : (c.toNat : Int) = 95 := by omega
        clear HT HF hmb
        go_wp2
        exact ⟨⟨j + 1, by omega, by go_num, HN, trivial⟩, by simp [intOf]; omega⟩
      · have HB := Lib.hid (HF.out (by rw [hmb]; simp <;> omega))
        have h3' : (97 : Int) ≤ c.toNat := by omega
        have h4' : ¬ (c.toNat : Int) ≤ 122 := by omega
        have h5' : (48 : Int) ≤ c.toNat := by omega
        have h6' : ¬ (c.toNat : Int) ≤ 57 := by omega
        have h7' : ((c.toNat : Int) == 95) = false := by simp; omega
        have h8' : ¬ (c.toNat : Int) = 95 := by omega
        clear HT HF hmb
        go_wp2
        go_ret
        exact ⟨by rw [HB.out]; rfl, rfl⟩
      · have HB := Lib.hid (HF.out (by rw [hmb]; simp <;> omega))
        have h3' : ¬ (97 : Int) ≤ c.toNat := by omega
        have h5' : ¬ (48 : Int) ≤ c.toNat := by omega
        have h7' : ((c.toNat : Int) == 95) = false := by simp; omega
        have h8' : ¬ (c.toNat : Int) = 95 := by omega
        clear HT HF hmb
        go_wp2
        go_ret
        exact ⟨by rw [HB.out]; rfl, rfl⟩
      · have HB := Lib.hid (HF.out (by rw [hmb]; simp <;> omega))
        have h3' : ¬ (97 : Int) ≤ c.toNat := by omega
        have h5' : (48 : Int) ≤ c.toNat := by omega
        have h6' : ¬ (c.toNat : Int) ≤ 57 := by omega
        have h7' : ((c.toNat : Int) == 95) = false := by simp; omega
        have h8' : ¬ (c.toNat : Int) = 95 := by omega
        clear HT HF hmb
        go_wp2
        go_ret
        exact ⟨by rw [HB.out]; rfl, rfl⟩
    · have hjl : j = l.length := by omega
      have hall : l.all memB = true := by rw [List.all_eq_true]; intro x hx; obtain ⟨i, hi, rfl⟩ := List.getElem_of_mem hx; exact hm.out i (by omega) hi
      have HB : Hid (labB l = (decide (0 < (l.length : Int)) && decide ((l.length : Int) < 17))) := Lib.hid (by
        unfold labB; rw [hall, Bool.eq_iff_iff]; simp
        constructor
        · rintro ⟨a, b⟩; exact ⟨List.length_pos_iff.2 a, by omega⟩
        · rintro ⟨a, b⟩; exact ⟨List.length_pos_iff.1 a, by omega⟩)
      clear hm hall
      subst hjl
      by_cases h0 : l = []
      · subst h0
        go_wp2
        go_ret
        exact ⟨by rw [HB.out]; rfl, rfl⟩
      · have hpos : (0 : Int) < (l.length : Int) := by have := List.length_pos_iff.2 h0; omega
        have hie : l.isEmpty = false := by cases l <;> simp_all
        go_wp2
        go_ret
        exact ⟨by rw [HB.out]; simp [h0]; intro _; omega, rfl⟩
end Go.Proofs.Ytbekocknfpekoaa
universe u
namespace Go.Proofs.Ytbekocknfpekoaa
set_option linter.unusedVariables false
set_option linter.unusedSimpArgs false
open Go.RowKit
theorem nz1 {α : Type u} (l : List α) (i : Nat) (x : α) : l.toArray.setIfInBounds i x = (l.set i x).toArray := List.setIfInBounds_toArray ..
theorem nz2 {α : Type u} (a : α) (l : List α) (x : α) : (a :: l).set 0 x = x :: l := rfl
theorem nz3 {α : Type u} (a : α) (l : List α) (n : Nat) (x : α) : (a :: l).set (n + 1) x = a :: l.set n x := rfl
section
variable {P : Program} {ops : Array Oper} {Q : Exit → Act → World → Prop} {md : Region.Mode} {S : World → Prop} {fuel : Nat} {listed : Array Bool} {a : Act} {w : World}
/-- an operation that yields comes up -/
theorem tk (i : Nat) (oi : Oper) {v : Value} (hS : S w) (h : wpAnyH P md ops Q S fuel (listed.setIfInBounds i true) (a.put oi.dst v) w)
    (hy : ∀ w, S w → (execOp a.eval oi).run P w = .ok (.value v) w := by (intro w hSw; (try dsimp only at hSw); go_simp) <;> with_reducible rfl)
    (hi : ops[i]? = some oi := by rfl) (hs : Region.noSelect ops = true := by kernel_rfl) (hf : Region.free md ops listed i = true := by kernel_rfl) (hr : (Region.ready md ops listed).contains i = true := by kernel_rfl)
    (hQ : ∀ c a w, Q (.panic c) (a.put oi.dst v) w → Q (.panic c) a w := by exact fun _ _ _ h => h) (hg : Region.wanted oi (yielded ops a.tmps) = true := by rfl) : wpAnyH P md ops Q S (fuel + 1) listed a w :=
  wpAnyH_take hi hs hf hr hQ (.inl ⟨hg, hy⟩) hS h
/-- an operation that is not wanted is passed over -/
theorem ts (i : Nat) (oi : Oper) (hS : S w) (h : wpAnyH P md ops Q S fuel (listed.setIfInBounds i true) (a.put oi.dst undef) w)
    (hi : ops[i]? = some oi := by rfl) (hs : Region.noSelect ops = true := by kernel_rfl) (hf : Region.free md ops listed i = true := by kernel_rfl) (hr : (Region.ready md ops listed).contains i = true := by kernel_rfl)
    (hQ : ∀ c a w, Q (.panic c) (a.put oi.dst undef) w → Q (.panic c) a w := by exact fun _ _ _ h => h) (hg : Region.wanted oi (yielded ops a.tmps) = false := by rfl) : wpAnyH P md ops Q S (fuel + 1) listed a w :=
  wpAnyH_take hi hs hf hr hQ (.inr ⟨hg, rfl⟩) hS h
/-- an operation that yields comes up, in a long region -/
theorem tkL (i : Nat) (oi : Oper) {v : Value} (hS : S w) (h : wpAnyH P md ops Q S fuel (listed.setIfInBounds i true) (a.put oi.dst v) w)
    (hy : ∀ w, S w → (execOp a.eval oi).run P w = .ok (.value v) w := by (intro w hSw; (try dsimp only at hSw); go_simp) <;> with_reducible rfl)
    (hi : ops[i]? = some oi := by rfl) (hs : Region.noSelect ops = true := by as_aux_lemma => kernel_rfl) (hf : Region.free md ops listed i = true := by as_aux_lemma => kernel_rfl) (hr : (Region.ready md ops listed).contains i = true := by as_aux_lemma => kernel_rfl)
    (hQ : ∀ c a w, Q (.panic c) (a.put oi.dst v) w → Q (.panic c) a w := by exact fun _ _ _ h => h) (hg : Region.wanted oi (yielded ops a.tmps) = true := by rfl) : wpAnyH P md ops Q S (fuel + 1) listed a w :=
  wpAnyH_take hi hs hf hr hQ (.inl ⟨hg, hy⟩) hS h
end
theorem row2 {w : World} {g : Nat} {t : TypeId} {a0 a1 : Value} (R : Row w g #[a0, a1] t) : w.cell? ⟨g, 0, none⟩ = some a0 ∧ w.cell? ⟨g, 1, none⟩ = some a1 := ⟨R.cell 0, R.cell 1⟩
theorem row3 {w : World} {g : Nat} {t : TypeId} {a0 a1 a2 : Value} (R : Row w g #[a0, a1, a2] t) : w.cell? ⟨g, 0, none⟩ = some a0 ∧ w.cell? ⟨g, 1, none⟩ = some a1 ∧ w.cell? ⟨g, 2, none⟩ = some a2 := ⟨R.cell 0, R.cell 1, R.cell 2⟩
theorem row5 {w : World} {g : Nat} {t : TypeId} {a0 a1 a2 a3 a4 : Value} (R : Row w g #[a0, a1, a2, a3, a4] t) : w.cell? ⟨g, 0, none⟩ = some a0 ∧ w.cell? ⟨g, 1, none⟩ = some a1 ∧ w.cell? ⟨g, 2, none⟩ = some a2 ∧ w.cell? ⟨g, 3, none⟩ = some a3 ∧ w.cell? ⟨g, 4, none⟩ = some a4 := ⟨R.cell 0, R.cell 1, R.cell 2, R.cell 3, R.cell 4⟩
theorem row7 {w : World} {g : Nat} {t : TypeId} {a0 a1 a2 a3 a4 a5 a6 : Value} (R : Row w g #[a0, a1, a2, a3, a4, a5, a6] t) : w.cell? ⟨g, 0, none⟩ = some a0 ∧ w.cell? ⟨g, 1, none⟩ = some a1 ∧ w.cell? ⟨g, 2, none⟩ = some a2 ∧ w.cell? ⟨g, 3, none⟩ = some a3 ∧ w.cell? ⟨g, 4, none⟩ = some a4 ∧ w.cell? ⟨g, 5, none⟩ = some a5 ∧ w.cell? ⟨g, 6, none⟩ = some a6 := ⟨R.cell 0, R.cell 1, R.cell 2, R.cell 3, R.cell 4, R.cell 5, R.cell 6⟩
theorem row12 {w : World} {g : Nat} {t : TypeId} {a0 a1 a2 a3 a4 a5 a6 a7 a8 a9 a10 a11 : Value} (R : Row w g #[a0, a1, a2, a3, a4, a5, a6, a7, a8, a9, a10, a11] t) : w.cell? ⟨g, 0, none⟩ = some a0 ∧ w.cell? ⟨g, 1, none⟩ = some a1 ∧ w.cell? ⟨g, 2, none⟩ = some a2 ∧ w.cell? ⟨g, 3, none⟩ = some a3 ∧ w.cell? ⟨g, 4, none⟩ = some a4 ∧ w.cell? ⟨g, 5, none⟩ = some a5 ∧ w.cell? ⟨g, 6, none⟩ = some a6 ∧ w.cell? ⟨g, 7, none⟩ = some a7 ∧ w.cell? ⟨g, 8, none⟩ = some a8 ∧ w.cell? ⟨g, 9, none⟩ = some a9 ∧ w.cell? ⟨g, 10, none⟩ = some a10 ∧ w.cell? ⟨g, 11, none⟩ = some a11 := ⟨R.cell 0, R.cell 1, R.cell 2, R.cell 3, R.cell 4, R.cell 5, R.cell 6, R.cell 7, R.cell 8, R.cell 9, R.cell 10, R.cell 11⟩
end Go.Proofs.Ytbekocknfpekoaa
namespace Go.Proofs.Ytbekocknfpekoaa
set_option linter.unusedVariables false
set_option linter.unusedSimpArgs false

/-- 2^64. -/
def M : Int := 18446744073709551616
/-- 2^128. -/
def MM : Int := 340282366920938463463374607431768211456
/-- the high word of a number modulo 2^128 -/
def hi (n : Int) : Int := n / 18446744073709551616 % 18446744073709551616
/-- the low word -/
def lo (n : Int) : Int := n % 18446744073709551616
/-- the number of two words -/
def wv (h l : Int) : Int := h * 18446744073709551616 + l
def Word (x : Int) : Prop := 0 ≤ x ∧ x < 18446744073709551616

theorem word_hi (n : Int) : Word (hi n) := by unfold Word hi; omega
theorem word_lo (n : Int) : Word (lo n) := by unfold Word lo; omega
theorem hi_nonneg (n : Int) : 0 ≤ hi n := by unfold hi; omega
theorem lo_nonneg (n : Int) : 0 ≤ lo n := by unfold lo; omega
theorem hi_le (n : Int) : hi n ≤ 18446744073709551615 := by unfold hi; omega
theorem lo_le (n : Int) : lo n ≤ 18446744073709551615 := by unfold lo; omega
theorem hi_wv {h l : Int} (hh : Word h) (hl : Word l) : hi (wv h l) = h := by unfold Word at *; unfold hi wv; omega
theorem lo_wv {h l : Int} (hl : Word l) : lo (wv h l) = l := by unfold Word at *; unfold lo wv; omega
theorem wv_hi_lo (n : Int) : wv (hi n) (lo n) = n % MM := by unfold wv hi lo MM; omega
theorem hi_mod (n : Int) : hi (n % MM) = hi n := by unfold hi MM; omega
theorem lo_mod (n : Int) : lo (n % MM) = lo n := by unfold lo MM; omega
theorem hi_congr {a b : Int} (h : a % MM = b % MM) : hi a = hi b := by rw [← hi_mod a, h, hi_mod]
theorem lo_congr {a b : Int} (h : a % MM = b % MM) : lo a = lo b := by rw [← lo_mod a, h, lo_mod]

/-- -1, 0 or 1, as a is below, equal to or above b -/
def cmpI (a b : Int) : Int := if a < b then -1 else if a = b then 0 else 1
end Go.Proofs.Ytbekocknfpekoaa
namespace Go.Proofs.Ytbekocknfpekoaa
set_option linter.unusedVariables false
set_option linter.unusedSimpArgs false

def andI (a b : Int) : Int := ((a.toNat &&& b.toNat : Nat) : Int)
def orI (a b : Int) : Int := ((a.toNat ||| b.toNat : Nat) : Int)

theorem ofInt_toNat (x : Int) (h : Word x) : (BitVec.ofInt 64 x).toNat = x.toNat := by
  obtain ⟨h0, h1⟩ := h
  obtain ⟨n, rfl⟩ := Int.eq_ofNat_of_zero_le h0
  rw [BitVec.ofInt_natCast, BitVec.toNat_ofNat, Int.toNat_natCast]; exact Nat.mod_eq_of_lt (by omega)
theorem word_toNat {x : Int} (h : Word x) : x.toNat < 2 ^ 64 := by obtain ⟨_, _⟩ := h; omega
theorem andI_word {x y : Int} (hx : Word x) : Word (andI x y) := by
  have : x.toNat &&& y.toNat < 2 ^ 64 := Nat.lt_of_le_of_lt Nat.and_le_left (word_toNat hx)
  unfold andI Word; omega
theorem orI_word {x y : Int} (hx : Word x) (hy : Word y) : Word (orI x y) := by
  have : x.toNat ||| y.toNat < 2 ^ 64 := Nat.or_lt_two_pow (word_toNat hx) (word_toNat hy)
  unfold orI Word; omega
theorem bits_and_w {x y : Int} (hx : Word x) (hy : Word y) : bits .and .u64 x y = andI x y := by
  have hw := andI_word (y := y) hx
  show IntKind.u64.wrap ((BitVec.ofInt 64 x &&& BitVec.ofInt 64 y).toNat : Int) = _
  rw [BitVec.toNat_and, ofInt_toNat x hx, ofInt_toNat y hy, IntKind.wrap_u64]
  unfold andI Word at *; omega
theorem bits_or_w {x y : Int} (hx : Word x) (hy : Word y) : bits .or .u64 x y = orI x y := by
  have hw := orI_word hx hy
  show IntKind.u64.wrap ((BitVec.ofInt 64 x ||| BitVec.ofInt 64 y).toNat : Int) = _
  rw [BitVec.toNat_or, ofInt_toNat x hx, ofInt_toNat y hy, IntKind.wrap_u64]
  unfold orI Word at *; omega

theorem wv_toNat {h l : Int} (hh : Word h) (hl : Word l) : (wv h l).toNat = h.toNat * 2 ^ 64 + l.toNat := by
  obtain ⟨_, _⟩ := hh; obtain ⟨_, _⟩ := hl; unfold wv; omega
theorem hi_nat (n : Nat) : hi (n : Int) = ((n / 2 ^ 64 % 2 ^ 64 : Nat) : Int) := by unfold hi; omega
theorem lo_nat (n : Nat) : lo (n : Int) = ((n % 2 ^ 64 : Nat) : Int) := by unfold lo; omega

theorem and_pure {ah al bh bl : Int} (h1 : Word ah) (h2 : Word al) (h3 : Word bh) (h4 : Word bl) :
    hi (andI (wv ah al) (wv bh bl)) = bits .and .u64 ah bh ∧ lo (andI (wv ah al) (wv bh bl)) = bits .and .u64 al bl := by
  rw [bits_and_w h1 h3, bits_and_w h2 h4]
  unfold andI
  rw [wv_toNat h1 h2, wv_toNat h3 h4, hi_nat, lo_nat, Nat.and_div_two_pow, Nat.and_mod_two_pow, Nat.and_mod_two_pow]
  have := word_toNat h1; have := word_toNat h2; have := word_toNat h3; have := word_toNat h4
  rw [show (ah.toNat * 2 ^ 64 + al.toNat) / 2 ^ 64 % 2 ^ 64 = ah.toNat by omega, show (bh.toNat * 2 ^ 64 + bl.toNat) / 2 ^ 64 % 2 ^ 64 = bh.toNat by omega,
    show (ah.toNat * 2 ^ 64 + al.toNat) % 2 ^ 64 = al.toNat by omega, show (bh.toNat * 2 ^ 64 + bl.toNat) % 2 ^ 64 = bl.toNat by omega]
  exact ⟨rfl, rfl⟩
/-- 2^n of a 64-bit shift, over the naturals -/
theorem pow_split (n : Nat) (h : n ≤ 64) : 2 ^ n * 2 ^ (64 - n) = 2 ^ 64 := by rw [← Nat.pow_add]; congr 1; omega

theorem shl_nat (a b n : Nat) (hn : n ≤ 64) (ha : a < 2 ^ 64) (hb : b < 2 ^ 64) :
    (a * 2 ^ 64 + b) * 2 ^ n / 2 ^ 64 % 2 ^ 64 = (a * 2 ^ n % 2 ^ 64) ||| (b / 2 ^ (64 - n)) ∧ (a * 2 ^ 64 + b) * 2 ^ n % 2 ^ 64 = b * 2 ^ n % 2 ^ 64 := by
  have hp := pow_split n hn
  have hpos : 0 < 2 ^ (64 - n) := Nat.two_pow_pos _
  have hpos' : 0 < 2 ^ n := Nat.two_pow_pos _
  have e1 : (a * 2 ^ 64 + b) * 2 ^ n = b * 2 ^ n + 2 ^ 64 * (a * 2 ^ n) := by rw [Nat.add_mul, Nat.add_comm]; congr 1; rw [Nat.mul_assoc, Nat.mul_left_comm]
  have e2 : b * 2 ^ n / 2 ^ 64 = b / 2 ^ (64 - n) := by
    rw [← hp, Nat.mul_comm b, Nat.mul_div_mul_left _ _ hpos']
  have e3 : a * 2 ^ n % 2 ^ 64 = 2 ^ n * (a % 2 ^ (64 - n)) := by
    rw [← hp, Nat.mul_comm a, Nat.mul_mod_mul_left]
  have e4 : b / 2 ^ (64 - n) < 2 ^ n := by rw [Nat.div_lt_iff_lt_mul hpos, hp]; exact hb
  constructor
  · rw [e1, Nat.add_mul_div_left _ _ (Nat.two_pow_pos _), e2, Nat.add_comm, Nat.add_mod, e3, ← Nat.two_pow_add_eq_or_of_lt e4, Nat.mod_eq_of_lt (a := b / 2 ^ (64 - n)) (Nat.lt_of_lt_of_le e4 (Nat.pow_le_pow_right (by omega) hn))]
    refine Nat.mod_eq_of_lt ?_
    have : a % 2 ^ (64 - n) + 1 ≤ 2 ^ (64 - n) := Nat.mod_lt _ hpos
    calc 2 ^ n * (a % 2 ^ (64 - n)) + b / 2 ^ (64 - n) < 2 ^ n * (a % 2 ^ (64 - n)) + 2 ^ n := by omega
      _ = 2 ^ n * (a % 2 ^ (64 - n) + 1) := by rw [Nat.mul_add, Nat.mul_one]
      _ ≤ 2 ^ n * 2 ^ (64 - n) := Nat.mul_le_mul_left _ this
      _ = 2 ^ 64 := hp
  · rw [e1, Nat.add_mul_mod_self_left]

theorem word_div {x : Int} (hx : Word x) (k : Nat) : Word (x / 2 ^ k) := by
  obtain ⟨a, rfl⟩ := Int.eq_ofNat_of_zero_le hx.1
  have : a / 2 ^ k ≤ a := Nat.div_le_self _ _
  have e : (a : Int) / 2 ^ k = ((a / 2 ^ k : Nat) : Int) := by simp
  have := hx.2
  rw [e]; unfold Word; generalize a / 2 ^ k = z at *; omega
theorem word_wrap (x : Int) : Word (IntKind.u64.wrap x) := by unfold Word; rw [IntKind.wrap_u64]; omega

theorem shl_pure (ah al n : Int) (h1 : Word ah) (h2 : Word al) (hn0 : 0 ≤ n) (hn : n ≤ 64) :
    hi (wv ah al * 2 ^ n.toNat) = bits .or .u64 (IntKind.u64.wrap (ah * 2 ^ n.toNat)) (al / 2 ^ (64 - n).toNat) ∧ lo (wv ah al * 2 ^ n.toNat) = IntKind.u64.wrap (al * 2 ^ n.toNat) := by
  rw [bits_or_w (word_wrap _) (word_div h2 _)]
  obtain ⟨a, rfl⟩ := Int.eq_ofNat_of_zero_le h1.1
  obtain ⟨b, rfl⟩ := Int.eq_ofNat_of_zero_le h2.1
  obtain ⟨k, rfl⟩ := Int.eq_ofNat_of_zero_le hn0
  have ha := h1.2; have hb := h2.2
  obtain ⟨p1, p2⟩ := shl_nat a b k (by omega) (by omega) (by omega)
  have e0 : wv (a : Int) (b : Int) * 2 ^ (k : Int).toNat = (((a * 2 ^ 64 + b) * 2 ^ k : Nat) : Int) := by unfold wv; simp
  have e1 : IntKind.u64.wrap ((a : Int) * 2 ^ (k : Int).toNat) = ((a * 2 ^ k % 2 ^ 64 : Nat) : Int) := by rw [IntKind.wrap_u64]; simp
  have e2 : IntKind.u64.wrap ((b : Int) * 2 ^ (k : Int).toNat) = ((b * 2 ^ k % 2 ^ 64 : Nat) : Int) := by rw [IntKind.wrap_u64]; simp
  have e3 : (64 - (k : Int)).toNat = 64 - k := by omega
  have e4 : (b : Int) / 2 ^ (64 - k) = ((b / 2 ^ (64 - k) : Nat) : Int) := by simp
  rw [e0, hi_nat, lo_nat, p1, p2, e1, e2, e3, e4]; unfold orI
  exact ⟨rfl, rfl⟩
/-- a shift by 64 and more -/
theorem shl_far (ah al n : Int) (h1 : Word ah) (h2 : Word al) (hn0 : 64 ≤ n) :
    hi (wv ah al * 2 ^ n.toNat) = IntKind.u64.wrap (al * 2 ^ (n - 64).toNat) ∧ lo (wv ah al * 2 ^ n.toNat) = 0 := by
  obtain ⟨k, hk⟩ := Int.eq_ofNat_of_zero_le (show 0 ≤ n - 64 by omega)
  have e : n.toNat = 64 + k := by omega
  rw [hk, e, IntKind.wrap_u64, Int.pow_add, Int.toNat_natCast]; unfold hi lo wv
  rw [show (ah * 18446744073709551616 + al) * (2 ^ 64 * 2 ^ k) = (ah * 2 ^ k * 18446744073709551616 + al * 2 ^ k) * 18446744073709551616 by
    rw [Int.add_mul, Int.add_mul]; congr 1 <;> (generalize (2 : Int) ^ k = z; rw [show (2 : Int) ^ 64 = 18446744073709551616 by decide]; simp only [Int.mul_assoc, Int.mul_comm, Int.mul_left_comm])]
  generalize ah * 2 ^ k = u; generalize al * 2 ^ k = v
  omega
theorem pow_ge (n : Nat) (h : 128 ≤ n) : (2 : Int) ^ n = MM * 2 ^ (n - 128) := by
  obtain ⟨k, rfl⟩ := Nat.exists_eq_add_of_le h
  rw [Int.pow_add, Nat.add_sub_cancel_left]; rfl
theorem shl_out (v n : Int) (hn0 : 128 ≤ n) : hi (v * 2 ^ n.toNat) = 0 ∧ lo (v * 2 ^ n.toNat) = 0 := by
  rw [pow_ge n.toNat (by omega)]
  rw [show v * (MM * 2 ^ (n.toNat - 128)) = v * 2 ^ (n.toNat - 128) * MM by rw [Int.mul_assoc, Int.mul_comm MM]]
  generalize v * 2 ^ (n.toNat - 128) = z; unfold hi lo MM; omega
end Go.Proofs.Ytbekocknfpekoaa
namespace Go.Proofs.Ytbekocknfpekoaa
set_option linter.unusedVariables false
set_option linter.unusedSimpArgs false
open Go.RowKit
theorem bcell {W w1 : World} (hb : Below W.heap.size W w1) : (∀ b o, b < W.heap.size → w1.cell? ⟨b, o, none⟩ = W.cell? ⟨b, o, none⟩) ∧ (∀ b o, b < W.heap.size → w1.frozen? ⟨b, o, none⟩ = W.frozen? ⟨b, o, none⟩) :=
  ⟨fun b o h => hb.cell (p := ⟨b, o, none⟩) h, fun b o h => hb.frozen (p := ⟨b, o, none⟩) h⟩

set_option maxHeartbeats 400000 in
theorem of_any (n : Int) (w : World) :
    Calls Try.prog 85 #[.int .u64 n] w fun e w' => e = .returned (.agg #[.int .u64 0, .int .u64 n]) ∧ Below w.heap.size w w' := by
  go_enter Try.func85, Try.ntmps85
  go_wp2
  exact bodyPost_ret (v := .agg #[.int .u64 0, .int .u64 n]) (by simp [results, Try.results85, go_sem]) rfl ⟨rfl, (by repeat (first | exact Below.refl _ _ | assumption | (with_reducible refine Below.setCell ?_ ?h _; case h => first | omega | (simp; done) | (simp; omega)) | (with_reducible refine Below.alloc ?_ ?h _; case h => first | omega | (simp; done) | (simp; omega)) | (with_reducible refine Below.drew ?_) | (with_reducible refine Below.trans ?_ (hb4.mono ?h); case h => first | omega | (simp; done) | (simp; omega)) | (with_reducible refine Below.trans ?_ (hb3.mono ?h); case h => first | omega | (simp; done) | (simp; omega)) | (with_reducible refine Below.trans ?_ (hb2.mono ?h); case h => first | omega | (simp; done) | (simp; omega)) | (with_reducible refine Below.trans ?_ (hb.mono ?h); case h => first | omega | (simp; done) | (simp; omega)) | (with_reducible refine Below.trans ?_ (hb0.mono ?h); case h => first | omega | (simp; done) | (simp; omega))))⟩

set_option maxHeartbeats 400000 in
theorem left_any (ah al n : Int) (h1 : Word ah) (h2 : Word al) (w : World) :
    Calls Try.prog 84 #[.agg #[.int .u64 ah, .int .u64 al], .int .i64 n] w fun e w' =>
      e = .returned (.agg #[.int .u64 (hi (wv ah al * 2 ^ n.toNat)), .int .u64 (lo (wv ah al * 2 ^ n.toNat))]) ∧ Below w.heap.size w w' := by
  by_cases c1 : n < 1
  · have e0 : n.toNat = 0 := by omega
    rw [e0, Int.pow_zero, Int.mul_one, hi_wv h1 h2, lo_wv h2]; clear e0 h1 h2
    go_enter Try.func84, Try.ntmps84
    go_wp2
    exact bodyPost_ret (v := .agg #[.int .u64 ah, .int .u64 al]) (by simp [results, Try.results84, go_sem]) rfl ⟨rfl, (by repeat (first | exact Below.refl _ _ | assumption | (with_reducible refine Below.setCell ?_ ?h _; case h => first | omega | (simp; done) | (simp; omega)) | (with_reducible refine Below.alloc ?_ ?h _; case h => first | omega | (simp; done) | (simp; omega)) | (with_reducible refine Below.drew ?_) | (with_reducible refine Below.trans ?_ (hb4.mono ?h); case h => first | omega | (simp; done) | (simp; omega)) | (with_reducible refine Below.trans ?_ (hb3.mono ?h); case h => first | omega | (simp; done) | (simp; omega)) | (with_reducible refine Below.trans ?_ (hb2.mono ?h); case h => first | omega | (simp; done) | (simp; omega)) | (with_reducible refine Below.trans ?_ (hb.mono ?h); case h => first | omega | (simp; done) | (simp; omega)) | (with_reducible refine Below.trans ?_ (hb0.mono ?h); case h => first | omega | (simp; done) | (simp; omega))))⟩
  by_cases c2 : 128 ≤ n
  · obtain ⟨P1, P2⟩ := shl_out (wv ah al) n c2
    rw [P1, P2]; clear P1 P2 h1 h2
    go_enter Try.func84, Try.ntmps84
    go_wp2
    exact bodyPost_ret (v := .agg #[.int .u64 0, .int .u64 0]) (by simp [results, Try.results84, go_sem]) rfl ⟨rfl, (by repeat (first | exact Below.refl _ _ | assumption | (with_reducible refine Below.setCell ?_ ?h _; case h => first | omega | (simp; done) | (simp; omega)) | (with_reducible refine Below.alloc ?_ ?h _; case h => first | omega | (simp; done) | (simp; omega)) | (with_reducible refine Below.drew ?_) | (with_reducible refine Below.trans ?_ (hb4.mono ?h); case h => first | omega | (simp; done) | (simp; omega)) | (with_reducible refine Below.trans ?_ (hb3.mono ?h); case h => first | omega | (simp; done) | (simp; omega)) | (with_reducible refine Below.trans ?_ (hb2.mono ?h); case h => first | omega | (simp; done) | (simp; omega)) | (with_reducible refine Below.trans ?_ (hb.mono ?h); case h => first | omega | (simp; done) | (simp; omega)) | (with_reducible refine Below.trans ?_ (hb0.mono ?h); case h => first | omega | (simp; done) | (simp; omega))))⟩
  by_cases c3 : 64 ≤ n
  · obtain ⟨P1, P2⟩ := shl_far ah al n h1 h2 c3
    rw [P1, P2]; clear P1 P2
    obtain ⟨b1, b2⟩ := h2; clear h1
    go_enter Try.func84, Try.ntmps84
    go_wp2
    exact bodyPost_ret (v := .agg #[.int .u64 (IntKind.u64.wrap (al * 2 ^ (n - 64).toNat)), .int .u64 0]) (by simp [results, Try.results84, go_sem]) rfl ⟨rfl, (by repeat (first | exact Below.refl _ _ | assumption | (with_reducible refine Below.setCell ?_ ?h _; case h => first | omega | (simp; done) | (simp; omega)) | (with_reducible refine Below.alloc ?_ ?h _; case h => first | omega | (simp; done) | (simp; omega)) | (with_reducible refine Below.drew ?_) | (with_reducible refine Below.trans ?_ (hb4.mono ?h); case h => first | omega | (simp; done) | (simp; omega)) | (with_reducible refine Below.trans ?_ (hb3.mono ?h); case h => first | omega | (simp; done) | (simp; omega)) | (with_reducible refine Below.trans ?_ (hb2.mono ?h); case h => first | omega | (simp; done) | (simp; omega)) | (with_reducible refine Below.trans ?_ (hb.mono ?h); case h => first | omega | (simp; done) | (simp; omega)) | (with_reducible refine Below.trans ?_ (hb0.mono ?h); case h => first | omega | (simp; done) | (simp; omega))))⟩
  obtain ⟨P1, P2⟩ := shl_pure ah al n h1 h2 (by omega) (by omega)
  rw [P1, P2]; clear P1 P2
  obtain ⟨a1, a2⟩ := h1; obtain ⟨b1, b2⟩ := h2
  go_enter Try.func84, Try.ntmps84
  go_wp2
  go_region
  all_goals go_wp2
  all_goals exact bodyPost_ret (v := .agg #[.int .u64 (bits .or .u64 (IntKind.u64.wrap (ah * 2 ^ n.toNat)) (al / 2 ^ (64 - n).toNat)), .int .u64 (IntKind.u64.wrap (al * 2 ^ n.toNat))]) (by simp [results, Try.results84, go_sem]) rfl ⟨rfl, (by repeat (first | exact Below.refl _ _ | assumption | (with_reducible refine Below.setCell ?_ ?h _; case h => first | omega | (simp; done) | (simp; omega)) | (with_reducible refine Below.alloc ?_ ?h _; case h => first | omega | (simp; done) | (simp; omega)) | (with_reducible refine Below.drew ?_) | (with_reducible refine Below.trans ?_ (hb4.mono ?h); case h => first | omega | (simp; done) | (simp; omega)) | (with_reducible refine Below.trans ?_ (hb3.mono ?h); case h => first | omega | (simp; done) | (simp; omega)) | (with_reducible refine Below.trans ?_ (hb2.mono ?h); case h => first | omega | (simp; done) | (simp; omega)) | (with_reducible refine Below.trans ?_ (hb.mono ?h); case h => first | omega | (simp; done) | (simp; omega)) | (with_reducible refine Below.trans ?_ (hb0.mono ?h); case h => first | omega | (simp; done) | (simp; omega))))⟩

def addB (a b : Int) : Bool := decide (MM ≤ a + b)
def subB (a b : Int) : Bool := decide (a < b)

end Go.Proofs.Ytbekocknfpekoaa
namespace Go.Proofs.Ytbekocknfpekoaa
set_option linter.unusedVariables false
set_option linter.unusedSimpArgs false
def maskI (n : Int) : Int := MM - 2 ^ (128 - min n.toNat 128)
def bitI (v i : Int) : Bool := decide (0 ≤ i ∧ i < 128 ∧ v / 2 ^ (127 - i).toNat % 2 = 1)
def sameI (a b : Int) : Nat := ((List.range 128).find? fun i : Nat => bitI a i != bitI b i).getD 128

theorem word_lit (n : Int) (h0 : 0 ≤ n) (h : n < 18446744073709551616) : Word n := ⟨h0, h⟩
theorem mask_mod (n : Int) (h : 1 ≤ n) : (wv 18446744073709551615 18446744073709551615 * 2 ^ (128 - n).toNat) % MM = maskI n % MM := by
  have e : (128 - n).toNat = 128 - min n.toNat 128 := by omega
  unfold maskI; rw [e]
  generalize (2 : Int) ^ (128 - min n.toNat 128) = z
  unfold wv MM; omega
theorem mask_range (n : Int) : 0 ≤ maskI n ∧ maskI n < MM := by
  unfold maskI
  have h1 : (2 : Int) ^ (128 - min n.toNat 128) ≤ 2 ^ 128 := by
    have := Nat.pow_le_pow_right (n := 2) (by decide) (show 128 - min n.toNat 128 ≤ 128 by omega)
    exact_mod_cast this
  have h2 : (0 : Int) < 2 ^ (128 - min n.toNat 128) := Int.pow_pos (by decide)
  rw [show (2 : Int) ^ 128 = MM by rfl] at h1
  generalize (2 : Int) ^ (128 - min n.toNat 128) = z at *; omega
theorem wv_mask (n : Int) : wv (hi (maskI n)) (lo (maskI n)) = maskI n := by
  rw [wv_hi_lo]; exact Int.emod_eq_of_lt (mask_range n).1 (mask_range n).2
theorem mask_zero (n : Int) (h : n < 1) : maskI n = 0 := by
  unfold maskI; rw [show n.toNat = 0 by omega]; rfl
end Go.Proofs.Ytbekocknfpekoaa
namespace Go.Proofs.Ytbekocknfpekoaa
set_option linter.unusedVariables false
set_option linter.unusedSimpArgs false

theorem mask_nat (n : Int) : (maskI n).toNat = 2 ^ 128 - (2 ^ (128 - min n.toNat 128) - 1 + 1) := by
  have h := Nat.two_pow_pos (128 - min n.toNat 128)
  have e : maskI n = ((2 ^ 128 - 2 ^ (128 - min n.toNat 128) : Nat) : Int) := by
    unfold maskI MM
    have h1 : 2 ^ (128 - min n.toNat 128) ≤ 2 ^ 128 := Nat.pow_le_pow_right (by decide) (by omega)
    rw [Int.ofNat_sub h1]; simp
  rw [e, Int.toNat_natCast, Nat.sub_add_cancel h]
theorem top_nat (a j : Nat) (ha : a < 2 ^ 128) (hj : j ≤ 128) : a &&& (2 ^ 128 - (2 ^ j - 1 + 1)) = a / 2 ^ j * 2 ^ j := by
  apply Nat.eq_of_testBit_eq
  intro i
  have h1 : 2 ^ j - 1 < 2 ^ 128 := by
    have := Nat.two_pow_pos j
    have : 2 ^ j ≤ 2 ^ 128 := Nat.pow_le_pow_right (by decide) hj
    omega
  rw [Nat.testBit_and, Nat.testBit_two_pow_sub_succ h1, Nat.testBit_two_pow_sub_one, Nat.testBit_mul_two_pow, Nat.testBit_div_two_pow]
  by_cases hi : i < j
  · have : ¬ j ≤ i := by omega
    simp [hi, this]
  · have hji : j ≤ i := by omega
    by_cases h128 : i < 128
    · simp [hi, hji, h128]
    · have : a.testBit i = false := Nat.testBit_lt_two_pow (Nat.lt_of_lt_of_le ha (Nat.pow_le_pow_right (by decide) (by omega)))
      simp [hi, hji, h128, this]
/-- Top cuts the low bits away. -/
theorem topI (a n : Int) (h0 : 0 ≤ a) (h1 : a < MM) : andI a (maskI n) = a / 2 ^ (128 - min n.toNat 128) * 2 ^ (128 - min n.toNat 128) := by
  obtain ⟨k, rfl⟩ := Int.eq_ofNat_of_zero_le h0
  unfold andI
  rw [mask_nat, Int.toNat_natCast, top_nat k _ (by unfold MM at h1; omega) (by omega)]
  simp
theorem div_step (a : Int) (k : Nat) (hk : k < 128) : a / 2 ^ (127 - k) = 2 * (a / 2 ^ (128 - k)) + a / 2 ^ (127 - k) % 2 := by
  have e : (2 : Int) ^ (128 - k) = 2 ^ (127 - k) * 2 := by rw [← Int.pow_succ]; congr 1; omega
  rw [e, ← Int.ediv_ediv_of_nonneg (Int.pow_nonneg (by decide))]
  generalize a / 2 ^ (127 - k) = z
  omega
theorem bit_def (a : Int) (k : Nat) (hk : k < 128) : bitI a k = decide (a / 2 ^ (127 - k) % 2 = 1) := by
  unfold bitI
  rw [show (127 - (k : Int)).toNat = 127 - k by omega]
  have : (k : Int) < 128 := by omega
  simp [this]
theorem div_same (a b : Int) (k : Nat) (hk : k ≤ 128) (h0 : a / 2 ^ 128 = b / 2 ^ 128) (h : ∀ j : Nat, j < k → bitI a j = bitI b j) : a / 2 ^ (128 - k) = b / 2 ^ (128 - k) := by
  induction k with
  | zero => exact h0
  | succ k ih =>
    have i := ih (by omega) (fun j hj => h j (by omega))
    have hb := h k (by omega)
    rw [bit_def a k (by omega), bit_def b k (by omega), decide_eq_decide] at hb
    rw [show 128 - (k + 1) = 127 - k by omega, div_step a k (by omega), div_step b k (by omega), i]
    generalize a / 2 ^ (127 - k) = x at *; generalize b / 2 ^ (127 - k) = y at *
    omega
theorem big_div (a : Int) (h0 : 0 ≤ a) (h1 : a < MM) : a / 2 ^ 128 = 0 := Int.ediv_eq_zero_of_lt h0 h1
end Go.Proofs.Ytbekocknfpekoaa
namespace Go.Proofs.Ytbekocknfpekoaa
set_option linter.unusedVariables false
set_option linter.unusedSimpArgs false
open Go.RowKit
set_option maxHeartbeats 400000 in
theorem and_any (ah al bh bl : Int) (h1 : Word ah) (h2 : Word al) (h3 : Word bh) (h4 : Word bl) (w : World) :
    Calls Try.prog 112 #[.agg #[.int .u64 ah, .int .u64 al], .agg #[.int .u64 bh, .int .u64 bl]] w fun e w' =>
      e = .returned (.agg #[.int .u64 (hi (andI (wv ah al) (wv bh bl))), .int .u64 (lo (andI (wv ah al) (wv bh bl)))]) ∧ Below w.heap.size w w' := by
  obtain ⟨P1, P2⟩ := and_pure h1 h2 h3 h4
  rw [P1, P2]; clear P1 P2 h1 h2 h3 h4
  go_enter Try.func112, Try.ntmps112
  go_wp2
  exact bodyPost_ret (v := .agg #[.int .u64 (bits .and .u64 ah bh), .int .u64 (bits .and .u64 al bl)]) (by simp [results, Try.results112, go_sem]) rfl ⟨rfl, (by repeat (first | exact Below.refl _ _ | assumption | (with_reducible refine Below.setCell ?_ ?h _; case h => first | omega | (simp; done) | (simp; omega)) | (with_reducible refine Below.alloc ?_ ?h _; case h => first | omega | (simp; done) | (simp; omega)) | (with_reducible refine Below.drew ?_) | (with_reducible refine Below.trans ?_ (hb4.mono ?h); case h => first | omega | (simp; done) | (simp; omega)) | (with_reducible refine Below.trans ?_ (hb3.mono ?h); case h => first | omega | (simp; done) | (simp; omega)) | (with_reducible refine Below.trans ?_ (hb2.mono ?h); case h => first | omega | (simp; done) | (simp; omega)) | (with_reducible refine Below.trans ?_ (hb.mono ?h); case h => first | omega | (simp; done) | (simp; omega)) | (with_reducible refine Below.trans ?_ (hb0.mono ?h); case h => first | omega | (simp; done) | (simp; omega))))⟩
set_option maxHeartbeats 400000 in
theorem mask_any (n : Int) (hn : n ≤ 9223372036854775807) (w : World) :
    Calls Try.prog 113 #[.int .i64 n] w fun e w' =>
      e = .returned (.agg #[.int .u64 (hi (maskI n)), .int .u64 (lo (maskI n))]) ∧ Below w.heap.size w w' := by
  by_cases c1 : n < 1
  · rw [mask_zero n c1, show hi 0 = 0 from rfl, show lo 0 = 0 from rfl]
    go_enter Try.func113, Try.ntmps113
    go_wp2
    exact bodyPost_ret (v := .agg #[.int .u64 0, .int .u64 0]) (by simp [results, Try.results113, go_sem]) rfl ⟨rfl, (by repeat (first | exact Below.refl _ _ | assumption | (with_reducible refine Below.setCell ?_ ?h _; case h => first | omega | (simp; done) | (simp; omega)) | (with_reducible refine Below.alloc ?_ ?h _; case h => first | omega | (simp; done) | (simp; omega)) | (with_reducible refine Below.drew ?_) | (with_reducible refine Below.trans ?_ (hb4.mono ?h); case h => first | omega | (simp; done) | (simp; omega)) | (with_reducible refine Below.trans ?_ (hb3.mono ?h); case h => first | omega | (simp; done) | (simp; omega)) | (with_reducible refine Below.trans ?_ (hb2.mono ?h); case h => first | omega | (simp; done) | (simp; omega)) | (with_reducible refine Below.trans ?_ (hb.mono ?h); case h => first | omega | (simp; done) | (simp; omega)) | (with_reducible refine Below.trans ?_ (hb0.mono ?h); case h => first | omega | (simp; done) | (simp; omega))))⟩
  · rw [hi_congr (mask_mod n (by omega)).symm, lo_congr (mask_mod n (by omega)).symm]
    go_enter Try.func113, Try.ntmps113
    go_wp2_with fail
    refine (left_any _ _ _ (word_lit 18446744073709551615 (by decide) (by decide)) (word_lit 18446744073709551615 (by decide) (by decide)) _).mono ?_
    rintro e w' ⟨rfl, hb⟩; obtain ⟨q1, q2⟩ := bcell hb; have hz := hb.size; (try simp at hz)
    go_wp2
    refine bodyPost_ret (v := .agg #[.int .u64 (hi (wv 18446744073709551615 18446744073709551615 * 2 ^ (128 - n).toNat)), .int .u64 (lo (wv 18446744073709551615 18446744073709551615 * 2 ^ (128 - n).toNat))]) (by simp [results, Try.results113, go_sem, q1]) rfl ⟨rfl, ?_⟩
    exact (by repeat (first | exact Below.refl _ _ | assumption | (with_reducible refine Below.setCell ?_ ?h _; case h => first | omega | (simp; done) | (simp; omega)) | (with_reducible refine Below.alloc ?_ ?h _; case h => first | omega | (simp; done) | (simp; omega)) | (with_reducible refine Below.drew ?_) | (with_reducible refine Below.trans ?_ (hb4.mono ?h); case h => first | omega | (simp; done) | (simp; omega)) | (with_reducible refine Below.trans ?_ (hb3.mono ?h); case h => first | omega | (simp; done) | (simp; omega)) | (with_reducible refine Below.trans ?_ (hb2.mono ?h); case h => first | omega | (simp; done) | (simp; omega)) | (with_reducible refine Below.trans ?_ (hb.mono ?h); case h => first | omega | (simp; done) | (simp; omega)) | (with_reducible refine Below.trans ?_ (hb0.mono ?h); case h => first | omega | (simp; done) | (simp; omega))))

set_option maxHeartbeats 400000 in
theorem top_any (ah al n : Int) (h1 : Word ah) (h2 : Word al) (hn : n ≤ 9223372036854775807) (w : World) :
    Calls Try.prog 107 #[.agg #[.int .u64 ah, .int .u64 al], .int .i64 n] w fun e w' =>
      e = .returned (.agg #[.int .u64 (hi (andI (wv ah al) (maskI n))), .int .u64 (lo (andI (wv ah al) (maskI n)))]) ∧ Below w.heap.size w w' := by
  rw [← wv_mask n]
  go_enter Try.func107, Try.ntmps107
  go_wp2
  go_region_held3 (fun w' => w'.cell? ⟨w.heap.size, 0, none⟩ = some (.int .u64 ah) ∧ w'.cell? ⟨w.heap.size, 1, none⟩ = some (.int .u64 al)) (first | (simp [go_sem, World.cell?_alloc_past]; done) | ((repeat' apply And.intro) <;> (repeat (first | assumption | (simp only [World.cell?_drew]) | (with_reducible refine (World.cell?_setCell_far _ _ _ _ ?h).trans ?_; case h => first | omega | (simp; done) | (simp; omega)) | (with_reducible refine (hb4.cell ?h).trans ?_; case h => first | omega | (simp; done) | (simp; omega)) | (with_reducible refine (hb3.cell ?h).trans ?_; case h => first | omega | (simp; done) | (simp; omega)) | (with_reducible refine (hb2.cell ?h).trans ?_; case h => first | omega | (simp; done) | (simp; omega)) | (with_reducible refine (hb.cell ?h).trans ?_; case h => first | omega | (simp; done) | (simp; omega)) | (with_reducible refine (hb0.cell ?h).trans ?_; case h => first | omega | (simp; done) | (simp; omega)))) <;> (try (simp [go_sem, World.cell?_alloc_past]))))
    (first
      | (go_at_call 113; refine (mask_any n hn _).mono ?_; rintro e w' ⟨rfl, hb⟩; obtain ⟨q1, q2⟩ := bcell hb; have hz := hb.size; (try simp at hz))
      | (go_at_call 112; refine (and_any _ _ _ _ h1 h2 (word_hi _) (word_lo _) _).mono ?_; rintro e w2 ⟨rfl, hb2x⟩; have hb2 := hb.trans (hb2x.mono hb.size); obtain ⟨q3, q4⟩ := bcell hb2; have hz2 := hb2.size; (try simp at hz2)))
  go_wp2
  refine bodyPost_ret (v := .agg #[.int .u64 (hi (andI (wv ah al) (wv (hi (maskI n)) (lo (maskI n))))), .int .u64 (lo (andI (wv ah al) (wv (hi (maskI n)) (lo (maskI n)))))]) (by simp [results, Try.results107, go_sem, q3, q1]) rfl ⟨rfl, ?_⟩
  exact (by repeat (first | exact Below.refl _ _ | assumption | (with_reducible refine Below.setCell ?_ ?h _; case h => first | omega | (simp; done) | (simp; omega)) | (with_reducible refine Below.alloc ?_ ?h _; case h => first | omega | (simp; done) | (simp; omega)) | (with_reducible refine Below.drew ?_) | (with_reducible refine Below.trans ?_ (hb4.mono ?h); case h => first | omega | (simp; done) | (simp; omega)) | (with_reducible refine Below.trans ?_ (hb3.mono ?h); case h => first | omega | (simp; done) | (simp; omega)) | (with_reducible refine Below.trans ?_ (hb2.mono ?h); case h => first | omega | (simp; done) | (simp; omega)) | (with_reducible refine Below.trans ?_ (hb.mono ?h); case h => first | omega | (simp; done) | (simp; omega)) | (with_reducible refine Below.trans ?_ (hb0.mono ?h); case h => first | omega | (simp; done) | (simp; omega))))

end Go.Proofs.Ytbekocknfpekoaa
namespace Go.Proofs.Ytbekocknfpekoaa
set_option linter.unusedVariables false
set_option linter.unusedSimpArgs false
open Go.RowKit
structure Ke where
  kind : Int
  len : Int
  h : Int
  l : Int
  path : List UInt8
  deriving DecidableEq
def kv (k : Ke) : Value := .agg #[.int .i64 k.kind, .int .i64 k.len, .int .u64 k.h, .int .u64 k.l, .string ⟨k.path.toArray⟩]
/-- the zero key -/
def kz : Ke := ⟨0, 0, 0, 0, []⟩
def Ke.num (k : Ke) : Int := wv k.h k.l
def wid (kind : Int) : Int := if kind = 1 then 32 else if kind = 2 then 128 else if kind = 3 then 8 else 0
theorem wid_range (k : Int) : 0 ≤ wid k ∧ wid k ≤ 128 := by unfold wid; repeat' split <;> omega
/-- the first n bits or labels -/
def topK (k : Ke) (n : Int) : Ke := if k.kind = 3 then ⟨3, n, 0, 0, topL k.path n⟩ else ⟨k.kind, n, hi (andI k.num (maskI n)), lo (andI k.num (maskI n)), []⟩
def pathK (p : List UInt8) : Ke := ⟨3, (labsL p).length, 0, 0, p⟩
def rightK (k : Ke) : Bool := if k.kind = 1 ∨ k.kind = 2 then decide (0 ≤ k.len) && decide (k.len ≤ wid k.kind) && decide (k = topK k k.len) else if k.kind = 3 then rightB k.path && decide (k = pathK k.path) else false
/-- a number of which only the first n bits are left -/
def tp (A : Int) (n : Nat) : Int := A / 2 ^ (128 - n) * 2 ^ (128 - n)
theorem tp_eq (A n : Int) (h0 : 0 ≤ A) (h1 : A < MM) (n1 : n ≤ 128) : andI A (maskI n) = tp A n.toNat := by
  rw [topI A n h0 h1, show min n.toNat 128 = n.toNat by omega]; rfl
theorem tp_range {A : Int} {n : Nat} (h0 : 0 ≤ A) (h1 : A < MM) : 0 ≤ tp A n ∧ tp A n ≤ A := by
  unfold tp
  have hp : (0 : Int) < 2 ^ (128 - n) := Int.pow_pos (by decide)
  exact ⟨Int.mul_nonneg (Int.ediv_nonneg h0 (by omega)) (by omega), Int.ediv_mul_le A (by omega)⟩
theorem pow2_ne (n : Nat) : (2 : Int) ^ n ≠ 0 := Int.ne_of_gt (Int.pow_pos (by decide))
theorem tp_bit (A : Int) (n j : Nat) (hn : n ≤ 128) (hj : j < 128) : bitI (tp A n) j = if j < n then bitI A j else false := by
  rw [bit_def _ j hj, bit_def _ j hj]
  unfold tp
  by_cases h : j < n
  · rw [if_pos h]
    have e : (2 : Int) ^ (127 - j) = 2 ^ (128 - n) * 2 ^ (n - 1 - j) := by rw [← Int.pow_add]; congr 1; omega
    rw [e, ← Int.ediv_ediv_of_nonneg (Int.pow_nonneg (by decide)), ← Int.ediv_ediv_of_nonneg (Int.pow_nonneg (by decide)), Int.mul_ediv_cancel _ (pow2_ne _)]
  · rw [if_neg h]
    have e : (2 : Int) ^ (128 - n) = 2 ^ (j - n) * 2 * 2 ^ (127 - j) := by rw [← Int.pow_succ, ← Int.pow_add]; congr 1; omega
    rw [e, ← Int.mul_assoc, Int.mul_ediv_cancel _ (pow2_ne _)]
    generalize A / (2 ^ (j - n) * 2 * 2 ^ (127 - j)) = x
    generalize (2 : Int) ^ (j - n) = y
    rw [← Int.mul_assoc, decide_eq_false_iff_not]
    generalize x * y = z
    omega
theorem num_eq_of_bits {A B : Int} (a0 : 0 ≤ A) (a1 : A < MM) (b0 : 0 ≤ B) (b1 : B < MM) (h : ∀ j : Nat, j < 128 → bitI A j = bitI B j) : A = B := by
  have := div_same A B 128 (by omega) (by rw [big_div A a0 a1, big_div B b0 b1]) h
  simpa using this
theorem tp_tp {A : Int} {n m : Nat} (hn : n ≤ 128) (h0 : 0 ≤ A) (h1 : A < MM) (hm : m ≤ n) : tp (tp A n) m = tp A m := by
  have r := tp_range (n := n) h0 h1
  have r1 := tp_range (n := m) h0 h1
  have r2 := tp_range (A := tp A n) (n := m) r.1 (by omega)
  refine num_eq_of_bits r2.1 (by omega) r1.1 (by omega) fun j hj => ?_
  rw [tp_bit _ m j (by omega) hj, tp_bit _ m j (by omega) hj, tp_bit _ n j hn hj]
  by_cases h : j < m
  · rw [if_pos h, if_pos h, if_pos (by omega)]
  · rw [if_neg h, if_neg h]
/-- an address's right key -/
structure Adr (k : Ke) : Prop where
  kind : k.kind = 1 ∨ k.kind = 2
  lo : 0 ≤ k.len
  up : k.len ≤ wid k.kind
  path : k.path = []
  h : Word k.h
  l : Word k.l
  num : k.num = tp k.num k.len.toNat
theorem num_range {k : Ke} (h : Word k.h) (l : Word k.l) : 0 ≤ k.num ∧ k.num < MM := by unfold Ke.num wv MM; unfold Word at *; omega
theorem Adr.range {k : Ke} (h : Adr k) : 0 ≤ k.num ∧ k.num < MM := num_range h.h h.l
theorem Adr.len {k : Ke} (h : Adr k) : k.len ≤ 128 := Int.le_trans h.up (wid_range _).2
theorem Adr.ne {k : Ke} (h : Adr k) : ¬ k.kind = 3 := by rcases h.kind with e | e <;> omega
theorem ke_ext {a b : Ke} (h1 : a.kind = b.kind) (h2 : a.len = b.len) (h3 : a.h = b.h) (h4 : a.l = b.l) (h5 : a.path = b.path) : a = b := by
  cases a; cases b; simp_all
theorem num_topK {k : Ke} (h3 : ¬ k.kind = 3) (hr : 0 ≤ k.num ∧ k.num < MM) (n : Int) (n1 : n ≤ 128) : (topK k n).num = tp k.num n.toNat := by
  unfold topK
  rw [if_neg h3]
  unfold Ke.num
  show wv (hi _) (lo _) = _
  have r := tp_range (n := n.toNat) hr.1 hr.2
  have e := tp_eq k.num n hr.1 hr.2 n1
  unfold Ke.num at *
  rw [wv_hi_lo, e, Int.emod_eq_of_lt r.1 (by omega)]
theorem adr_of_right {k : Ke} (h : rightK k = true) (hk : k.kind = 1 ∨ k.kind = 2) : Adr k := by
  unfold rightK at h
  rw [if_pos hk] at h
  simp only [Bool.and_eq_true, decide_eq_true_eq] at h
  obtain ⟨⟨h1, h2⟩, h3⟩ := h
  have hn : ¬ k.kind = 3 := by rcases hk with e | e <;> omega
  have e : topK k k.len = ⟨k.kind, k.len, hi (andI k.num (maskI k.len)), lo (andI k.num (maskI k.len)), []⟩ := by unfold topK; rw [if_neg hn]
  have wh : Word k.h := by rw [h3, e]; exact word_hi _
  have wl : Word k.l := by rw [h3, e]; exact word_lo _
  have hr := num_range wh wl
  have hw := (wid_range k.kind).2
  refine ⟨hk, h1, h2, by rw [h3, e], wh, wl, ?_⟩
  rw [← num_topK hn hr k.len (by omega), ← h3]
theorem right_of_adr {k : Ke} (h : Adr k) : rightK k = true := by
  unfold rightK
  rw [if_pos h.kind]
  simp only [Bool.and_eq_true, decide_eq_true_eq]
  refine ⟨⟨h.lo, h.up⟩, ?_⟩
  have e : topK k k.len = ⟨k.kind, k.len, hi (andI k.num (maskI k.len)), lo (andI k.num (maskI k.len)), []⟩ := by unfold topK; rw [if_neg h.ne]
  have hr := h.range
  rw [e, tp_eq k.num k.len hr.1 hr.2 h.len, ← h.num]
  refine ke_ext rfl rfl ?_ ?_ h.path
  · exact (hi_wv h.h h.l).symm
  · exact (lo_wv h.l).symm
theorem right_path {k : Ke} (h : rightK k = true) (hk : k.kind = 3) : rightB k.path = true ∧ k = pathK k.path := by
  unfold rightK at h
  rw [if_neg (by omega), if_pos hk] at h
  simpa using h
theorem right_pathK {p : List UInt8} (h : rightB p = true) : rightK (pathK p) = true := by
  unfold rightK
  rw [if_neg (by unfold pathK; simp), if_pos (show (pathK p).kind = 3 from rfl)]
  simp [pathK, h]
theorem right_kind {k : Ke} (h : rightK k = true) : (k.kind = 1 ∨ k.kind = 2) ∨ k.kind = 3 := by
  unfold rightK at h
  by_cases h1 : k.kind = 1 ∨ k.kind = 2
  · exact .inl h1
  · rw [if_neg h1] at h
    by_cases h2 : k.kind = 3
    · exact .inr h2
    · rw [if_neg h2] at h; cases h
/-- a bit as a text -/
def bitS (b : Bool) : List UInt8 := if b = true then [49] else [48]
theorem bitS_inj {a b : Bool} (h : bitS a = bitS b) : a = b := by cases a <;> cases b <;> simp_all [bitS]
/-- a key's letters -/
def letK (k : Ke) : List (List UInt8) := if k.kind = 3 then labsL k.path else (List.range k.len.toNat).map fun i : Nat => bitS (bitI k.num i)
theorem letK_adr {k : Ke} (h : Adr k) : letK k = (List.range k.len.toNat).map fun i : Nat => bitS (bitI k.num i) := by unfold letK; rw [if_neg h.ne]
theorem letK_len {k : Ke} (h : rightK k = true) : ((letK k).length : Int) = k.len := by
  rcases right_kind h with hk | hk
  · have a := adr_of_right h hk
    rw [letK_adr a]; simp; have := a.lo; omega
  · obtain ⟨h1, h2⟩ := right_path h hk
    rw [h2]; rfl
theorem len_range {k : Ke} (h : rightK k = true) : 0 ≤ k.len ∧ k.len ≤ 128 := by
  rcases right_kind h with hk | hk
  · have a := adr_of_right h hk
    exact ⟨a.lo, a.len⟩
  · obtain ⟨h1, h2⟩ := right_path h hk
    rw [h2]; have := labsL_len k.path; unfold pathK; simp; omega
/-- equal letters, equal keys -/
theorem ke_of_letters {a b : Ke} (ha : rightK a = true) (hb : rightK b = true) (hk : a.kind = b.kind) (h : letK a = letK b) : a = b := by
  have la := letK_len ha
  have lb := letK_len hb
  have hl : a.len = b.len := by rw [← la, ← lb, h]
  rcases right_kind ha with k1 | k1
  · have A := adr_of_right ha k1
    have B := adr_of_right hb (hk ▸ k1)
    have hn : a.num = b.num := by
      refine num_eq_of_bits A.range.1 A.range.2 B.range.1 B.range.2 fun j hj => ?_
      rw [A.num, B.num, tp_bit _ _ j (by have := A.len; omega) hj, tp_bit _ _ j (by have := B.len; omega) hj, ← hl]
      by_cases hjl : j < a.len.toNat
      · rw [if_pos hjl, if_pos hjl]
        rw [letK_adr A, letK_adr B, ← hl] at h
        have := congrArg (fun x => x[j]?) h
        simp [hjl] at this
        exact bitS_inj this
      · rw [if_neg hjl, if_neg hjl]
    refine ke_ext hk hl ?_ ?_ (by rw [A.path, B.path])
    · rw [← hi_wv A.h A.l, ← hi_wv B.h B.l]; exact congrArg hi hn
    · rw [← lo_wv (h := a.h) A.l, ← lo_wv (h := b.h) B.l]; exact congrArg lo hn
  · obtain ⟨a1, a2⟩ := right_path ha k1
    obtain ⟨b1, b2⟩ := right_path hb (hk ▸ k1)
    have hp : a.path = b.path := by
      unfold letK at h
      rw [if_pos k1, if_pos (hk ▸ k1)] at h
      rw [← jn_labs a1, ← jn_labs b1, h]
    rw [a2, b2, hp]
theorem topK_kind (k : Ke) (n : Int) : (topK k n).kind = k.kind := by unfold topK; split <;> simp_all
theorem topK_len (k : Ke) (n : Int) : (topK k n).len = n := by unfold topK; split <;> rfl
/-- the top of a right key -/
theorem top_right {k : Ke} (h : rightK k = true) (n : Int) (n0 : 0 ≤ n) (n1 : n ≤ k.len) : rightK (topK k n) = true ∧ letK (topK k n) = (letK k).take n.toNat := by
  rcases right_kind h with hk | hk
  · have A := adr_of_right h hk
    have hl := A.len
    have hr := A.range
    have hN := num_topK A.ne hr n (by omega)
    have e : topK k n = ⟨k.kind, n, hi (andI k.num (maskI n)), lo (andI k.num (maskI n)), []⟩ := by unfold topK; rw [if_neg A.ne]
    have T : Adr (topK k n) := by
      refine ⟨by rw [topK_kind]; exact hk, by rw [topK_len]; exact n0, ?_, by rw [e], by rw [e]; exact word_hi _, by rw [e]; exact word_lo _, ?_⟩
      · rw [topK_len, topK_kind]; have := A.up; omega
      · rw [hN, topK_len, tp_tp (by omega) hr.1 hr.2 (Nat.le_refl _)]
    refine ⟨right_of_adr T, ?_⟩
    rw [letK_adr T, letK_adr A, topK_len, hN]
    apply List.ext_getElem?
    intro j
    by_cases hj : j < n.toNat
    · have h1 : j < k.len.toNat := by omega
      simp [hj, h1, tp_bit k.num n.toNat j (by omega) (by omega)]
    · have h2 : n.toNat ≤ j := by omega
      simp [List.getElem?_take, hj]
  · obtain ⟨h1, h2⟩ := right_path h hk
    have e : topK k n = pathK (topL k.path n) := by
      unfold topK pathK
      rw [if_pos hk, labs_top, List.length_take]
      have : k.len = (labsL k.path).length := by rw [h2]; rfl
      congr 1
      omega
    rw [e]
    refine ⟨right_pathK (right_top _ _), ?_⟩
    unfold letK
    rw [if_pos (show (pathK _).kind = 3 from rfl), if_pos hk]
    exact labs_top _ _
theorem top_full {k : Ke} (h : rightK k = true) : topK k k.len = k := by
  have hl := len_range h
  obtain ⟨t1, t2⟩ := top_right h k.len hl.1 (Int.le_refl _)
  refine ke_of_letters t1 h (topK_kind _ _) ?_
  rw [t2, List.take_of_length_le]
  have := letK_len h; omega
/-- how much two keys have in common -/
def sameK (a b : Ke) : Int := if a.kind = 3 then (sameN (labsL a.path) (labsL b.path) : Nat) else min (min a.len b.len) (sameI a.num b.num : Nat)
def cutK (k : Ke) (n : Int) : Ke := if rightK k = true then (if k.len ≤ n then k else topK k (max n 0)) else kz
def overK (a b : Ke) : Bool := rightK a && (rightK b && (decide (a.kind = b.kind) && (decide (a.len ≤ b.len) && decide (a = topK b a.len))))
def meetB (a b : Ke) : Bool := decide (a.kind = b.kind) && (rightK a && rightK b)
def meetK (a b : Ke) : Ke := if meetB a b = true then topK a (sameK a b) else kz
theorem cut_right {k : Ke} (h : rightK k = true) (n : Int) : rightK (cutK k n) = true ∧ (cutK k n).kind = k.kind ∧ letK (cutK k n) = (letK k).take n.toNat := by
  have hl := len_range h
  have hn := letK_len h
  unfold cutK
  rw [if_pos h]
  by_cases hc : k.len ≤ n
  · rw [if_pos hc]
    refine ⟨h, rfl, ?_⟩
    rw [List.take_of_length_le (by omega)]
  · rw [if_neg hc]
    obtain ⟨t1, t2⟩ := top_right h (max n 0) (by omega) (by omega)
    refine ⟨t1, topK_kind _ _, ?_⟩
    rw [t2]; congr 1; omega
end Go.Proofs.Ytbekocknfpekoaa
namespace Go.Proofs.Ytbekocknfpekoaa
set_option linter.unusedVariables false
set_option linter.unusedSimpArgs false
open Go.RowKit
theorem bw {w : World} : Below w.heap.size w w := Below.refl _ _
theorem bset5 {w w1 : World} {g : Nat} (hb : Below w.heap.size w w1) (hg : w.heap.size ≤ g) (a b c d e : Value) : Below w.heap.size w (((((w1.setCell ⟨g, 0, none⟩ a).setCell ⟨g, 1, none⟩ b).setCell ⟨g, 2, none⟩ c).setCell ⟨g, 3, none⟩ d).setCell ⟨g, 4, none⟩ e) :=
  ((((hb.setCell hg a).setCell hg b).setCell hg c).setCell hg d).setCell hg e
theorem width_t (k : Int) (w : World) : Calls Try.prog 76 #[.int .i64 k] w fun e w' => e = .returned (.int .i64 (wid k)) ∧ Below w.heap.size w w' := by
  by_cases h1 : k = 1
  · subst h1
    go_enter Try.func76, Try.ntmps76
    go_wp2
    go_ret
    exact ⟨rfl, bw⟩
  by_cases h2 : k = 2
  · subst h2
    go_enter Try.func76, Try.ntmps76
    go_wp2
    go_ret
    exact ⟨rfl, bw⟩
  by_cases h3 : k = 3
  · subst h3
    go_enter Try.func76, Try.ntmps76
    go_wp2
    go_ret
    exact ⟨rfl, bw⟩
  have e : wid k = 0 := by unfold wid; rw [if_neg h1, if_neg h2, if_neg h3]
  rw [e]
  have b1 : (k == 1) = false := by simpa using h1
  have b2 : (k == 2) = false := by simpa using h2
  have b3 : (k == 3) = false := by simpa using h3
  go_enter Try.func76, Try.ntmps76
  go_wp2
  go_ret
  exact ⟨rfl, bw⟩
theorem ofBits_t (kd n h l : Int) (w : World) : Calls Try.prog 83 #[.int .i64 kd, .int .i64 n, .agg #[.int .u64 h, .int .u64 l]] w fun e w' => e = .returned (.agg #[.int .i64 kd, .int .i64 n, .int .u64 h, .int .u64 l, .string ⟨#[]⟩]) ∧ Below w.heap.size w w' := by
  go_enter Try.func83, Try.ntmps83
  go_wp2
  refine bodyPost_ret (v := .agg #[.int .i64 kd, .int .i64 n, .int .u64 h, .int .u64 l, .string ⟨#[]⟩]) (by simp [results, Try.results83, go_sem]) rfl ⟨rfl, (by repeat (first | exact Below.refl _ _ | assumption | (with_reducible refine Below.setCell ?_ ?h _; case h => first | omega | (simp; done) | (simp; omega)) | (with_reducible refine Below.alloc ?_ ?h _; case h => first | omega | (simp; done) | (simp; omega)) | (with_reducible refine Below.drew ?_) | (with_reducible refine Below.trans ?_ (hb4.mono ?h); case h => first | omega | (simp; done) | (simp; omega)) | (with_reducible refine Below.trans ?_ (hb3.mono ?h); case h => first | omega | (simp; done) | (simp; omega)) | (with_reducible refine Below.trans ?_ (hb2.mono ?h); case h => first | omega | (simp; done) | (simp; omega)) | (with_reducible refine Below.trans ?_ (hb.mono ?h); case h => first | omega | (simp; done) | (simp; omega)) | (with_reducible refine Below.trans ?_ (hb0.mono ?h); case h => first | omega | (simp; done) | (simp; omega))))⟩
theorem bits_t (kd n h l : Int) (p : ByteArray) (w : World) : Calls Try.prog 92 #[.agg #[.int .i64 kd, .int .i64 n, .int .u64 h, .int .u64 l, .string p]] w fun e w' => e = .returned (.agg #[.int .u64 h, .int .u64 l]) ∧ Below w.heap.size w w' := by
  go_enter Try.func92, Try.ntmps92
  go_wp2
  refine bodyPost_ret (v := .agg #[.int .u64 h, .int .u64 l]) (by simp [results, Try.results92, go_sem]) rfl ⟨rfl, (by repeat (first | exact Below.refl _ _ | assumption | (with_reducible refine Below.setCell ?_ ?h _; case h => first | omega | (simp; done) | (simp; omega)) | (with_reducible refine Below.alloc ?_ ?h _; case h => first | omega | (simp; done) | (simp; omega)) | (with_reducible refine Below.drew ?_) | (with_reducible refine Below.trans ?_ (hb4.mono ?h); case h => first | omega | (simp; done) | (simp; omega)) | (with_reducible refine Below.trans ?_ (hb3.mono ?h); case h => first | omega | (simp; done) | (simp; omega)) | (with_reducible refine Below.trans ?_ (hb2.mono ?h); case h => first | omega | (simp; done) | (simp; omega)) | (with_reducible refine Below.trans ?_ (hb.mono ?h); case h => first | omega | (simp; done) | (simp; omega)) | (with_reducible refine Below.trans ?_ (hb0.mono ?h); case h => first | omega | (simp; done) | (simp; omega))))⟩
theorem ofPath_t (p : List UInt8) (hp : p.length ≤ 140737488355328) (w : World) : Calls Try.prog 103 #[.string ⟨p.toArray⟩] w fun e w' => e = .returned (kv (pathK p)) ∧ Below w.heap.size w w' := by
  have hl := fun w1 => len_t p hp w1
  unfold kv pathK
  dsimp only
  generalize (labsL p).length = n at *
  go_enter Try.func103, Try.ntmps103
  go_wp2_with fail
  refine (hl _).mono ?_
  rintro e w1 ⟨rfl, hb⟩
  clear hl
  have R := (Row.new w #[.int .i64 0, .int .i64 0, .int .u64 0, .int .u64 0, .string ⟨#[]⟩] 30).later hb
  have hb1 : Below w.heap.size w w1 := below_step (by repeat (first | exact Below.refl _ _ | assumption | (with_reducible refine Below.setCell ?_ ?h _; case h => first | omega | (simp; done) | (simp; omega)) | (with_reducible refine Below.alloc ?_ ?h _; case h => first | omega | (simp; done) | (simp; omega)) | (with_reducible refine Below.drew ?_) | (with_reducible refine Below.trans ?_ (hb4.mono ?h); case h => first | omega | (simp; done) | (simp; omega)) | (with_reducible refine Below.trans ?_ (hb3.mono ?h); case h => first | omega | (simp; done) | (simp; omega)) | (with_reducible refine Below.trans ?_ (hb2.mono ?h); case h => first | omega | (simp; done) | (simp; omega)) | (with_reducible refine Below.trans ?_ (hb.mono ?h); case h => first | omega | (simp; done) | (simp; omega)) | (with_reducible refine Below.trans ?_ (hb0.mono ?h); case h => first | omega | (simp; done) | (simp; omega)))) hb
  have c0 := ((R).cell 0).trans (show _ = some (Value.int .i64 0) from rfl)
  have cf0 := (R).frozen 0
  have c1 := ((R).cell 1).trans (show _ = some (Value.int .i64 0) from rfl)
  have cf1 := (R).frozen 1
  have c2 := ((R).cell 2).trans (show _ = some (Value.int .u64 0) from rfl)
  have cf2 := (R).frozen 2
  have c3 := ((R).cell 3).trans (show _ = some (Value.int .u64 0) from rfl)
  have cf3 := (R).frozen 3
  have c4 := ((R).cell 4).trans (show _ = some (Value.string ⟨#[]⟩) from rfl)
  have cf4 := (R).frozen 4
  clear R hb
  go_wp2
  refine bodyPost_ret (v := .agg #[.int .i64 3, .int .i64 n, .int .u64 0, .int .u64 0, .string ⟨p.toArray⟩]) (by simp [results, Try.results103, go_sem, c0, c1, c2, c3, c4]) rfl ⟨rfl, bset5 hb1 (Nat.le_refl _) _ _ _ _ _⟩
end Go.Proofs.Ytbekocknfpekoaa
namespace Go.Proofs.Ytbekocknfpekoaa
set_option linter.unusedVariables false
set_option linter.unusedSimpArgs false
open Go.RowKit
set_option maxHeartbeats 2000000 in
theorem ktop_t (k : Ke) (n : Int) (hh : Word k.h) (hl : Word k.l) (hn : n ≤ 9223372036854775807) (hp : k.path.length ≤ 140737488355328) (w : World) : Calls Try.prog 100 #[kv k, .int .i64 n] w fun e w' => e = .returned (kv (topK k n)) ∧ Below w.heap.size w w' := by
  obtain ⟨kd, len, h, l, p⟩ := k
  dsimp only at hh hl hp
  have R0 : Row ((w.alloc (.cells #[.int .i64 kd, .int .i64 len, .int .u64 h, .int .u64 l, .string ⟨p.toArray⟩] 30)).alloc (.cells #[.int .i64 0, .int .i64 0, .int .u64 0, .int .u64 0, .string ⟨#[]⟩] 30)) w.heap.size #[.int .i64 kd, .int .i64 len, .int .u64 h, .int .u64 l, .string ⟨p.toArray⟩] 30 := (Row.new _ _ _).alloc _
  have R1 : Row ((w.alloc (.cells #[.int .i64 kd, .int .i64 len, .int .u64 h, .int .u64 l, .string ⟨p.toArray⟩] 30)).alloc (.cells #[.int .i64 0, .int .i64 0, .int .u64 0, .int .u64 0, .string ⟨#[]⟩] 30)) (w.heap.size + 1) #[.int .i64 0, .int .i64 0, .int .u64 0, .int .u64 0, .string ⟨#[]⟩] 30 := by
    have := Row.new (w.alloc (.cells #[.int .i64 kd, .int .i64 len, .int .u64 h, .int .u64 l, .string ⟨p.toArray⟩] 30)) #[.int .i64 0, .int .i64 0, .int .u64 0, .int .u64 0, .string ⟨#[]⟩] 30
    rwa [World.size_alloc] at this
  have hb0 : Below w.heap.size w ((w.alloc (.cells #[.int .i64 kd, .int .i64 len, .int .u64 h, .int .u64 l, .string ⟨p.toArray⟩] 30)).alloc (.cells #[.int .i64 0, .int .i64 0, .int .u64 0, .int .u64 0, .string ⟨#[]⟩] 30)) := (by repeat (first | exact Below.refl _ _ | assumption | (with_reducible refine Below.setCell ?_ ?h _; case h => first | omega | (simp; done) | (simp; omega)) | (with_reducible refine Below.alloc ?_ ?h _; case h => first | omega | (simp; done) | (simp; omega)) | (with_reducible refine Below.drew ?_) | (with_reducible refine Below.trans ?_ (hb4.mono ?h); case h => first | omega | (simp; done) | (simp; omega)) | (with_reducible refine Below.trans ?_ (hb3.mono ?h); case h => first | omega | (simp; done) | (simp; omega)) | (with_reducible refine Below.trans ?_ (hb2.mono ?h); case h => first | omega | (simp; done) | (simp; omega)) | (with_reducible refine Below.trans ?_ (hb.mono ?h); case h => first | omega | (simp; done) | (simp; omega)) | (with_reducible refine Below.trans ?_ (hb0.mono ?h); case h => first | omega | (simp; done) | (simp; omega))))
  by_cases h3 : kd = 3
  · subst h3
    have HT := fun w1 => top_t p hp n w1
    have e : kv (topK ⟨3, len, h, l, p⟩ n) = .agg #[.int .i64 3, .int .i64 n, .int .u64 0, .int .u64 0, .string ⟨(topL p n).toArray⟩] := by unfold topK; rw [if_pos rfl]; rfl
    rw [e]
    unfold kv
    dsimp only
    generalize topL p n = q at *
    go_enter Try.func100, Try.ntmps100
    go_wp2_with fail
    refine (HT _).mono ?_
    rintro e w1 ⟨rfl, hb⟩
    replace R1 := R1.later hb
    have hb1 := below_step hb0 hb
    clear HT hb R0 hb0
    have c0 := ((R1).cell 0).trans (show _ = some (Value.int .i64 0) from rfl)
    have cf0 := (R1).frozen 0
    have c1 := ((R1).cell 1).trans (show _ = some (Value.int .i64 0) from rfl)
    have cf1 := (R1).frozen 1
    have c2 := ((R1).cell 2).trans (show _ = some (Value.int .u64 0) from rfl)
    have cf2 := (R1).frozen 2
    have c3 := ((R1).cell 3).trans (show _ = some (Value.int .u64 0) from rfl)
    have cf3 := (R1).frozen 3
    have c4 := ((R1).cell 4).trans (show _ = some (Value.string ⟨#[]⟩) from rfl)
    have cf4 := (R1).frozen 4
    clear R1
    go_wp2
    refine bodyPost_ret (v := .agg #[.int .i64 3, .int .i64 n, .int .u64 0, .int .u64 0, .string ⟨q.toArray⟩]) (by simp [results, Try.results100, go_sem, c0, c1, c2, c3, c4]) rfl ⟨rfl, bset5 hb1 (by omega) _ _ _ _ _⟩
  · have hk3 : (kd == 3) = false := by simpa using h3
    have HB := bits_t kd len h l ⟨p.toArray⟩
    have HT := top_any h l n hh hl hn
    have e : kv (topK ⟨kd, len, h, l, p⟩ n) = .agg #[.int .i64 kd, .int .i64 n, .int .u64 (hi (andI (wv h l) (maskI n))), .int .u64 (lo (andI (wv h l) (maskI n))), .string ⟨#[]⟩] := by unfold topK; rw [if_neg h3]; rfl
    rw [e]
    clear e
    unfold kv
    dsimp only
    generalize hi (andI (wv h l) (maskI n)) = H at *
    generalize lo (andI (wv h l) (maskI n)) = L at *
    have HO := ofBits_t kd n H L
    go_enter Try.func100, Try.ntmps100
    go_wp2_with fail
    have c0 := ((R0).cell 0).trans (show _ = some (Value.int .i64 kd) from rfl)
    have cf0 := (R0).frozen 0
    have c1 := ((R0).cell 1).trans (show _ = some (Value.int .i64 len) from rfl)
    have cf1 := (R0).frozen 1
    have c2 := ((R0).cell 2).trans (show _ = some (Value.int .u64 h) from rfl)
    have cf2 := (R0).frozen 2
    have c3 := ((R0).cell 3).trans (show _ = some (Value.int .u64 l) from rfl)
    have cf3 := (R0).frozen 3
    have c4 := ((R0).cell 4).trans (show _ = some (Value.string ⟨p.toArray⟩) from rfl)
    have cf4 := (R0).frozen 4
    generalize (w.alloc (.cells #[.int .i64 kd, .int .i64 len, .int .u64 h, .int .u64 l, .string ⟨p.toArray⟩] 30)).alloc (.cells #[.int .i64 0, .int .i64 0, .int .u64 0, .int .u64 0, .string ⟨#[]⟩] 30) = w0 at *
    replace R1 := R1.drew
    replace hb0 := hb0.drew
    refine wp_region_held_drew (S := (fun w' => w'.cell? ⟨w.heap.size, 0, none⟩ = some (.int .i64 kd) ∧ w'.cell? ⟨w.heap.size, 1, none⟩ = some (.int .i64 len) ∧ w'.cell? ⟨w.heap.size, 2, none⟩ = some (.int .u64 h) ∧ w'.cell? ⟨w.heap.size, 3, none⟩ = some (.int .u64 l) ∧ w'.cell? ⟨w.heap.size, 4, none⟩ = some (.string ⟨p.toArray⟩))) (by kernel_rfl) ?hSr1_ (fun hHeld => ?_)
    case hSr1_ => (first | exact ⟨c0, c1, c2, c3, c4⟩ | (obtain ⟨s0, s1, s2, s3, s4⟩ := hHeld; exact ⟨cell_later hb s0, cell_later hb s1, cell_later hb s2, cell_later hb s3, cell_later hb s4⟩))
    refine tk 0 ⟨some 14, .fieldAddr 30 (.tmp 2) 0, 0, _, _, _⟩ hHeld ?_
    (try simp only [Act.put, nz1, nz2, nz3])
    refine tk 1 ⟨some 15, .load 3 (.tmp 14), 3, _, _, _⟩ hHeld ?_
    (try simp only [Act.put, nz1, nz2, nz3])
    refine tk 2 ⟨some 16, .move (.tmp 1), 3, _, _, _⟩ hHeld ?_
    (try simp only [Act.put, nz1, nz2, nz3])
    refine tk 3 ⟨some 17, .load 30 (.tmp 2), 30, _, _, _⟩ hHeld ?_
    (try simp only [Act.put, nz1, nz2, nz3])
    refine tk 5 ⟨some 19, .move (.tmp 1), 3, _, _, _⟩ hHeld ?_
    (try simp only [Act.put, nz1, nz2, nz3])
    refine wpAnyH_ready (rs := [4]) (by kernel_rfl) (by simp) ?_
    refine AllReadyH.cons (o := ⟨some 18, .call { callee := .value (.func 92), args := #[.tmp 17], argTypes := #[30] }, 96, _, _, _⟩) rfl (fun K hK => ?_) AllReadyH.nil
    go_simp
    ((refine (HB _).mono ?_); (rintro e wn ⟨rfl, hb⟩); (replace R1 := R1.later hb); (replace hb0 := below_step hb0 hb))
    go_wp2_with fail
    refine hK.out _ _ ?hSr1_6_4 (fun hHeld2 => ?_)
    case hSr1_6_4 => (first | exact ⟨c0, c1, c2, c3, c4⟩ | (obtain ⟨s0, s1, s2, s3, s4⟩ := hHeld; exact ⟨cell_later hb s0, cell_later hb s1, cell_later hb s2, cell_later hb s3, cell_later hb s4⟩))
    clear hK K hHeld
    have hHeld := hHeld2
    clear hHeld2
    (try simp only [Act.put, nz1, nz2, nz3])
    refine wpAnyH_ready (rs := [6]) (by kernel_rfl) (by simp) ?_
    refine AllReadyH.cons (o := ⟨some 20, .call { callee := .value (.func 107), args := #[.tmp 18, .tmp 19], argTypes := #[96, 3] }, 96, _, _, _⟩) rfl (fun K hK => ?_) AllReadyH.nil
    go_simp
    ((refine (HT _).mono ?_); (rintro e wn ⟨rfl, hb⟩); (replace R1 := R1.later hb); (replace hb0 := below_step hb0 hb))
    go_wp2_with fail
    refine hK.out _ _ ?hSr1_7_6 (fun hHeld2 => ?_)
    case hSr1_7_6 => (first | exact ⟨c0, c1, c2, c3, c4⟩ | (obtain ⟨s0, s1, s2, s3, s4⟩ := hHeld; exact ⟨cell_later hb s0, cell_later hb s1, cell_later hb s2, cell_later hb s3, cell_later hb s4⟩))
    clear hK K hHeld
    have hHeld := hHeld2
    clear hHeld2
    (try simp only [Act.put, nz1, nz2, nz3])
    refine wpAnyH_ready (rs := [7]) (by kernel_rfl) (by simp) ?_
    refine AllReadyH.cons (o := ⟨some 21, .call { callee := .value (.func 83), args := #[.tmp 15, .tmp 16, .tmp 20], argTypes := #[3, 3, 96] }, 30, _, _, _⟩) rfl (fun K hK => ?_) AllReadyH.nil
    go_simp
    ((refine (HO _).mono ?_); (rintro e wn ⟨rfl, hb⟩); (replace R1 := R1.later hb); (replace hb0 := below_step hb0 hb))
    go_wp2_with fail
    refine hK.out _ _ ?hSr1_8_7 (fun hHeld2 => ?_)
    case hSr1_8_7 => (first | exact ⟨c0, c1, c2, c3, c4⟩ | (obtain ⟨s0, s1, s2, s3, s4⟩ := hHeld; exact ⟨cell_later hb s0, cell_later hb s1, cell_later hb s2, cell_later hb s3, cell_later hb s4⟩))
    clear hK K hHeld
    have hHeld := hHeld2
    clear hHeld2
    (try simp only [Act.put, nz1, nz2, nz3])
    refine wpAnyH_ready (rs := [8]) (by kernel_rfl) (by simp) ?_
    refine AllReadyH.cons (o := ⟨none, .store 30 (.tmp 4) (.tmp 21), 0, _, _, _⟩) rfl (fun K hK => ?_) AllReadyH.nil
    ((have z0 := R1.cell 0); (have z1 := R1.cell 1); (have z2 := R1.cell 2); (have z3 := R1.cell 3); (have z4 := R1.cell 4); (simp at z0 z1 z2 z3 z4); (have zf0 := R1.frozen 0); (have zf1 := R1.frozen 1); (have zf2 := R1.frozen 2); (have zf3 := R1.frozen 3); (have zf4 := R1.frozen 4); go_simp)
    refine hK.out _ _ ?hSr1_9_8 (fun hHeld2 => ?_)
    case hSr1_9_8 => (obtain ⟨s0, s1, s2, s3, s4⟩ := hHeld; exact ⟨by simp [go_sem, s0], by simp [go_sem, s1], by simp [go_sem, s2], by simp [go_sem, s3], by simp [go_sem, s4]⟩)
    clear hK K hHeld
    have hHeld := hHeld2
    clear hHeld2
    (try simp only [Act.put, nz1, nz2, nz3])
    refine wpAnyH_done (by kernel_rfl) ?_ _
    (go_wp2_with fail; exact bodyPost_ret (v := .agg #[.int .i64 kd, .int .i64 n, .int .u64 H, .int .u64 L, .string ⟨#[]⟩]) (by simp [results, Try.results100, go_sem, z0, z1, z2, z3, z4]) rfl ⟨rfl, bset5 hb0 (by omega) _ _ _ _ _⟩)
end Go.Proofs.Ytbekocknfpekoaa
