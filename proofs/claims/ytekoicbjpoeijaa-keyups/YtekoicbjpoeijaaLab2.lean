/- Cut at one byte; the parts of a text and the iterator over them. No conditions beyond lengths. -/
import Derived.Test.YtekoicbjpoeijaaLab1
import Derived.Test.YtekoicbjpoeijaaRangeN
import Derived.Shelf.Abstract
import Derived.Shelf.RegionOpen
import Derived.OwnWalkIn
import Derived.TacticsInMore
import Derived.LoopNIn
import Derived.LoopIn
namespace Go.Proofs.Ytekoicbjpoeijaa
set_option linter.unusedVariables false
set_option linter.unusedSimpArgs false
open Go.RowKit
theorem idx_at (c : UInt8) (r : List UInt8) : ∀ (p : List UInt8), c ∉ p → Lib.indexByte (p ++ c :: r) c = p.length
  | [], _ => by simp [Lib.indexByte]
  | x :: p, h => by
    have hx : ¬ x = c := fun e => h (by rw [e]; simp)
    have ih := idx_at c r p (fun hm => h (List.mem_cons_of_mem _ hm))
    rw [List.cons_append, Lib.indexByte, ih, if_neg (by simpa using hx), if_neg (by simp)]
    simp
theorem idx_no (c : UInt8) : ∀ (p : List UInt8), c ∉ p → Lib.indexByte p c = -1
  | [], _ => rfl
  | x :: p, h => by
    have hx : ¬ x = c := fun e => h (by rw [e]; simp)
    rw [Lib.indexByte, idx_no c p (fun hm => h (List.mem_cons_of_mem _ hm)), if_neg (by simpa using hx), if_pos (by simp)]
theorem ext_l (l : List UInt8) (a b : Nat) : (⟨l.toArray⟩ : ByteArray).extract a b = ⟨((l.take b).drop a).toArray⟩ := by
  apply ByteArray.ext
  simp [ByteArray.extract, ByteArray.copySlice]
  rw [List.drop_take]
set_option maxHeartbeats 1600000 in
theorem liteAt_t (p r : List UInt8) (c : UInt8) (hp : c ∉ p) (hl : (p ++ c :: r).length ≤ 140737488355328) (w : World) : Calls Try.prog 92 #[.string ⟨(p ++ c :: r).toArray⟩, .string ⟨#[c]⟩] w fun e w' => e = .returned (.tuple #[.string ⟨p.toArray⟩, .string ⟨r.toArray⟩, .bool true]) ∧ ∃ n, w' = w.drewN n := by
  have hi := idx_at c r p hp
  have hsz := bs_size (p ++ c :: r)
  have hlen : (p ++ c :: r).length = p.length + 1 + r.length := by simp; omega
  have x0 := ext_l (p ++ c :: r) 0 p.length
  have x1 := ext_l (p ++ c :: r) (p.length + 1) (p ++ c :: r).length
  rw [List.take_left, List.drop_zero] at x0
  rw [List.take_length, show (p ++ c :: r).drop (p.length + 1) = r by rw [List.drop_append, List.drop_eq_nil_of_le (by omega)]; simp] at x1
  have hx := Try.stringslite_Index_one ⟨(p ++ c :: r).toArray⟩ c w
  rw [show (⟨(p ++ c :: r).toArray⟩ : ByteArray).data.toList = p ++ c :: r by simp, hi] at hx
  generalize p ++ c :: r = l at *
  generalize p.length = k at *
  rw [← hsz] at hlen
  go_enter Try.func92, Try.ntmps92
  go_wp2_with fail
  refine hx.mono ?_
  rintro e w1 ⟨rfl, rfl⟩
  clear hx hi
  have h0 : (0 : Int) ≤ (k : Int) := by omega
  have z1 : (⟨#[c]⟩ : ByteArray).size = 1 := rfl
  have t1 : ((k : Int) + 1).toNat = k + 1 := by omega
  go_wp2_with fail
  go_region
  go_wp2
  exact bodyPost_ret (v := .tuple #[.string ⟨p.toArray⟩, .string ⟨r.toArray⟩, .bool true]) (by simp [results, Try.results92, go_sem]) rfl ⟨rfl, 1, rfl⟩
theorem liteNo_t (l : List UInt8) (c : UInt8) (hp : c ∉ l) (w : World) : Calls Try.prog 92 #[.string ⟨l.toArray⟩, .string ⟨#[c]⟩] w fun e w' => e = .returned (.tuple #[.string ⟨l.toArray⟩, .string ⟨#[]⟩, .bool false]) ∧ w' = w := by
  have hx := Try.stringslite_Index_one ⟨l.toArray⟩ c w
  rw [show (⟨l.toArray⟩ : ByteArray).data.toList = l by simp, idx_no c l hp] at hx
  go_enter Try.func92, Try.ntmps92
  go_wp2_with fail
  refine hx.mono ?_
  rintro e w1 ⟨rfl, rfl⟩
  clear hx
  go_wp2
  exact bodyPost_ret (v := .tuple #[.string ⟨l.toArray⟩, .string ⟨#[]⟩, .bool false]) (by simp [results, Try.results92, go_sem]) rfl ⟨rfl, rfl⟩
theorem cutAt_t (p r : List UInt8) (c : UInt8) (hp : c ∉ p) (hl : (p ++ c :: r).length ≤ 140737488355328) (w : World) : Calls Try.prog 84 #[.string ⟨(p ++ c :: r).toArray⟩, .string ⟨#[c]⟩] w fun e w' => e = .returned (.tuple #[.string ⟨p.toArray⟩, .string ⟨r.toArray⟩, .bool true]) ∧ ∃ n, w' = w.drewN n := by
  have hx := liteAt_t p r c hp hl w
  generalize p ++ c :: r = l at *
  go_enter Try.func84, Try.ntmps84
  go_wp2_with fail
  refine hx.mono ?_
  rintro e w1 ⟨rfl, n, rfl⟩
  clear hx
  go_wp2
  exact bodyPost_ret (v := .tuple #[.string ⟨p.toArray⟩, .string ⟨r.toArray⟩, .bool true]) (by simp [results, Try.results84, go_sem]) rfl ⟨rfl, n, rfl⟩
theorem cutNo_t (l : List UInt8) (c : UInt8) (hp : c ∉ l) (w : World) : Calls Try.prog 84 #[.string ⟨l.toArray⟩, .string ⟨#[c]⟩] w fun e w' => e = .returned (.tuple #[.string ⟨l.toArray⟩, .string ⟨#[]⟩, .bool false]) ∧ w' = w := by
  have hx := liteNo_t l c hp w
  go_enter Try.func84, Try.ntmps84
  go_wp2_with fail
  refine hx.mono ?_
  rintro e w1 ⟨rfl, rfl⟩
  clear hx
  go_wp2
  exact bodyPost_ret (v := .tuple #[.string ⟨l.toArray⟩, .string ⟨#[]⟩, .bool false]) (by simp [results, Try.results84, go_sem]) rfl ⟨rfl, rfl⟩
/-- what stands between the periods -/
def splitD : List UInt8 → List (List UInt8)
  | [] => [[]]
  | c :: r => if c = 46 then [] :: splitD r else match splitD r with
    | h :: t => (c :: h) :: t
    | [] => [[c]]
def partsL (l : List UInt8) : List (List UInt8) := if l = [] then [] else splitD l
theorem splitD_no : ∀ (p : List UInt8), (46 : UInt8) ∉ p → splitD p = [p]
  | [], _ => rfl
  | c :: p, h => by
    have hc : ¬ c = 46 := fun e => h (by rw [e]; simp)
    rw [splitD, if_neg hc, splitD_no p (fun hm => h (List.mem_cons_of_mem _ hm))]
theorem splitD_at : ∀ (p r : List UInt8), (46 : UInt8) ∉ p → splitD (p ++ 46 :: r) = p :: splitD r
  | [], r, _ => by rw [List.nil_append, splitD, if_pos rfl]
  | c :: p, r, h => by
    have hc : ¬ c = 46 := fun e => h (by rw [e]; simp)
    rw [List.cons_append, splitD, if_neg hc, splitD_at p r (fun hm => h (List.mem_cons_of_mem _ hm))]
theorem splitD_ne (l : List UInt8) : splitD l ≠ [] := by
  cases l with
  | nil => simp [splitD]
  | cons c r =>
    rw [splitD]
    split
    · simp
    · split <;> simp
theorem splitD_cases (l : List UInt8) : (∃ p r, (46 : UInt8) ∉ p ∧ l = p ++ 46 :: r ∧ splitD l = p :: splitD r) ∨ ((46 : UInt8) ∉ l ∧ splitD l = [l]) := by
  by_cases h : (46 : UInt8) ∈ l
  · obtain ⟨p, r, rfl, hp⟩ := List.eq_append_cons_of_mem h
    exact Or.inl ⟨p, r, hp, rfl, splitD_at p r hp⟩
  · exact Or.inr ⟨h, splitD_no l h⟩
theorem splitD_len (l : List UInt8) : (splitD l).length ≤ l.length + 1 := by
  induction l with
  | nil => simp [splitD]
  | cons c r ih =>
    rw [splitD]
    split
    · simp; omega
    · cases hs : splitD r with
      | nil => simp
      | cons h t => rw [hs] at ih; simp at ih ⊢; omega
theorem partsL_len (l : List UInt8) : (partsL l).length ≤ l.length + 1 := by
  unfold partsL
  split
  · simp
  · exact splitD_len l
/-- what round k is handed -/
def partF (l : List UInt8) (k : Nat) : Array Value := #[.int .i64 k, .string ⟨((partsL l)[k]?.getD []).toArray⟩]
attribute [local go_sem] Oper.semAt_some
theorem abides_drewN {β : Type} {B : Nat} {J : β → World → Prop} (h : AbidesFrom B J) {s : β} {W : World} (hs : J s W) (n : Nat) : J s (W.drewN n) :=
  h s W (W.drewN n) none hs ⟨rfl, rfl, rfl, Nat.le_refl _, fun _ _ _ => rfl⟩ (fun r e => by cases e)
def mLen (s m : Value) : Nat := match m, s with
  | .bool true, .string b => b.size + 1
  | _, _ => 0
set_option maxRecDepth 100000 in
set_option maxHeartbeats 2000000 in
theorem parts1_in (l : List UInt8) (hl : l.length ≤ 140737488355328) (n g : Nat) (w : World) (hg : w.cell? ⟨g, 0, none⟩ = some (.string ⟨l.toArray⟩)) (hgw : g < w.heap.size) :
    SeqN Fence.wide n Try.prog 83 #[.pointer (some ⟨g, 0, none⟩)] (partF l) (fun _ _ => True) (partsL l).length w := by
  intro i J Jx W hb hJ hJx hY h0
  have hc := (hb.cell (p := ⟨g, 0, none⟩) hgw).trans hg
  clear hb
  refine callsIn_of_wp Try.func83 rfl trivial ?_ rfl
  simp only [Try.ntmps83, List.size_toArray, List.length_cons, List.length_nil, Nat.reduceAdd, Nat.reduceSub, Array.replicate_succ, Array.replicate_zero, List.push_toArray, List.append_toArray, List.nil_append, List.cons_append]
  gi_wp2
  gi_region
  have h1 : J 0 W.drew := abides_drewN hJ h0 1
  have hrel0 : if (!l.isEmpty) = true then (partsL l).drop 0 = splitD l else (partsL l).length = 0 := by
    unfold partsL
    by_cases h : l = []
    · subst h; simp
    · have : l.isEmpty = false := by cases l <;> simp_all
      rw [if_neg h, this]; simp
  have HJ := Lib.hid (And.intro hJ hJx)
  have HR0 := Lib.hid hrel0
  have hY' := Lib.hid hY
  clear hrel0 hJ hJx h0 hc hY
  generalize W.drew = W1 at *
  gi_wp2
  gi_loopw [3, 4, 5] (fun s m iv wr => ∃ (b : Bool) (rest : List UInt8) (k : Nat), s = .string ⟨rest.toArray⟩ ∧ m = .bool b ∧ iv = .int .i64 k ∧ rest.length ≤ 140737488355328 ∧ k ≤ l.length + 1 ∧ J k wr ∧ Hid (if b = true then (partsL l).drop k = splitD rest else (partsL l).length = k)) (fun s m _ _ => mLen s m)
  case atStart => exact ⟨_, l, 0, rfl, rfl, rfl, hl, by omega, h1, HR0⟩
  case round =>
    clear h1 HR0
    obtain ⟨b, rest, k, rfl, rfl, rfl, hrl, hk, hJk, hr⟩ := hrel
    cases b with
    | false =>
      have hN := hr.out
      rw [if_neg (by simp)] at hN
      gi_wp2
      go_end0
      exact ⟨⟨_, rfl⟩, .inl (by rw [hN]; exact hJk)⟩
    | true =>
      have hN := hr.out
      rw [if_pos rfl] at hN
      clear hr
      have hkN : k < (partsL l).length := by
        by_cases h : k < (partsL l).length
        · exact h
        · rw [List.drop_eq_nil_of_le (by omega)] at hN; exact absurd hN.symm (splitD_ne rest)
      have hNl := partsL_len l
      rcases splitD_cases rest with ⟨p, r, hp, hre, hsp⟩ | ⟨hp, hsp⟩
      · rw [hsp] at hN
        have hcut := cutAt_t p r 46 hp (by rw [← hre]; exact hrl) wr
        rw [← hre] at hcut
        have hget : (partsL l)[k]? = some p := by
          have := congrArg (·[0]?) hN
          simpa using this
        have hnx : (partsL l).drop (k + 1) = splitD r := by
          rw [← List.drop_drop, hN]; rfl
        have hrlen : r.length ≤ 140737488355328 := by rw [hre] at hrl; simp at hrl; omega
        have HD := Lib.hid (show r.length + 1 < rest.length + 1 by rw [hre]; simp; omega)
        have HNX := Lib.hid hnx
        have HC := Lib.hid hcut
        clear hN hsp hp hre hcut hnx
        gi_wp2
        refine ⟨trivial, fun h => (by cases h), (callsIn_wide.2 HC.out).mono ?_⟩
        rintro e w1 ⟨rfl, m, rfl⟩
        have hJ1 := abides_drewN HJ.out.1 hJk m
        generalize wr.drewN m = W2 at *
        obtain ⟨fn, tmps, assign, body, hy, hR⟩ := hY'.out k W2 hkN hJ1
        have hpf : partF l k = #[.int .i64 k, .string ⟨p.toArray⟩] := by unfold partF; rw [hget]; rfl
        rw [hpf] at hy
        clear hJk hget hpf
        gi_wp2
        refine ⟨fun h => (by cases h), hR.mono ?_⟩
        rintro e W3 (⟨rfl, hJ3, _⟩ | ⟨rfl, hJx3⟩)
        · gi_wp2
          exact ⟨⟨true, r, k + 1, rfl, rfl, by go_num, hrlen, by omega, hJ3, Lib.hid (by rw [if_pos rfl]; exact HNX.out)⟩, by have := HD.out; simpa [mLen, bs_size] using this⟩
        · gi_wp2
          refine bodyPost_ret (results_none rfl _ _ _) rfl ?_
          exact ⟨⟨_, rfl⟩, .inr ⟨_, by omega, hJx3⟩⟩
      · rw [hsp] at hN
        have hcut := cutNo_t rest 46 hp wr
        have hget : (partsL l)[k]? = some rest := by
          have := congrArg (·[0]?) hN
          simpa using this
        have hend : (partsL l).length = k + 1 := by
          have := congrArg List.length hN
          simp at this; omega
        have HEN := Lib.hid hend
        have HC := Lib.hid hcut
        clear hN hsp hp hcut hend
        gi_wp2
        refine ⟨trivial, fun h => (by cases h), (callsIn_wide.2 HC.out).mono ?_⟩
        rintro e w1 ⟨rfl, rfl⟩
        obtain ⟨fn, tmps, assign, body, hy, hR⟩ := hY'.out k w1 hkN hJk
        have hpf : partF l k = #[.int .i64 k, .string ⟨rest.toArray⟩] := by unfold partF; rw [hget]; rfl
        rw [hpf] at hy
        clear hJk hget hpf HC
        gi_wp2
        refine ⟨fun h => (by cases h), hR.mono ?_⟩
        rintro e W3 (⟨rfl, hJ3, _⟩ | ⟨rfl, hJx3⟩)
        · gi_wp2
          exact ⟨⟨false, [], k + 1, rfl, rfl, by go_num, by simp, by omega, hJ3, Lib.hid (by rw [if_neg (by simp)]; exact HEN.out)⟩, by simp [mLen]⟩
        · gi_wp2
          refine bodyPost_ret (results_none rfl _ _ _) rfl ?_
          exact ⟨⟨_, rfl⟩, .inr ⟨_, by omega, hJx3⟩⟩
theorem parts_t (b : ByteArray) (w : World) : Calls Try.prog 69 #[.string b] w fun e w' => e = .returned (.func (.func 83) #[] #[.pointer (some ⟨w.heap.size, 0, none⟩)]) ∧ w' = w.alloc (.cells #[.string b] 9) := by
  have hmf : ∀ (fn : Fn) (first cap : Array Value) (w : World), (Instr.makeFunc fn first cap).run Try.prog w = .ok (.func fn first cap) w := fun _ _ _ _ => rfl
  go_enter Try.func69, Try.ntmps69
  go_wp2
  go_ret
  exact ⟨rfl, rfl⟩
end Go.Proofs.Ytekoicbjpoeijaa
