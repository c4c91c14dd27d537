/- The reference's Parse of layer 3. No conditions beyond lengths. -/
import Derived.Test.YtkenkjdelhmaoaaDoorFour6
namespace Go.Proofs.YtkenkjdelhmaoaaDoor
set_option linter.unusedVariables false
set_option linter.unusedSimpArgs false
open Go.RowKit
theorem mrun_next (l : List UInt8) (j : Nat) (c : UInt8) (s : Mc) (h : l[j]? = some c) (hs : mrun ⟨0, 0, 0, 0⟩ (l.take j) = some s) : mrun ⟨0, 0, 0, 0⟩ (l.take (j + 1)) = mstep s c := by
  rw [List.take_add_one, h]
  show mrun _ (l.take j ++ [c]) = _
  rw [mrun_app, hs]
  show (mstep s c).bind _ = _
  cases mstep s c <;> rfl
theorem mrun_stop (l : List UInt8) (j : Nat) (h : mrun ⟨0, 0, 0, 0⟩ (l.take (j + 1)) = none) : mach l = none := by
  unfold mach
  have e := List.take_append_drop (j + 1) l
  rw [← e, mrun_app, h]; rfl
def rp (o : Option Nat) : Value := match o with
  | some v => .tuple #[.int .u32 v, .bool true]
  | none => .tuple #[.int .u32 0, .bool false]
set_option maxRecDepth 100000 in
set_option maxHeartbeats 1600000 in
theorem rparse4_t (l : List UInt8) (hl : l.length ≤ 300) (w : World) : Calls Tryd.prog 19 #[.string ⟨l.toArray⟩] w fun e w' => e = .returned (rp (mach l)) ∧ w = w' := by
  have hsz := bs_size l
  go_enter Tryd.func19, Tryd.ntmps19
  go_wp2_with fail
  go_loopw [4, 5, 6, 7, 8] (fun vn va vp vk i wr => ∃ (j : Nat) (s : Mc), j ≤ l.length ∧ i = .int .i64 j ∧ mrun ⟨0, 0, 0, 0⟩ (l.take j) = some s ∧ vn = .int .u32 s.n ∧ va = .int .u32 s.a ∧ vp = .int .i64 s.p ∧ vk = .int .i64 s.k ∧ s.n ≤ 255 ∧ s.a < 4294967296 ∧ s.p ≤ j ∧ s.k ≤ j ∧ wr = w) (fun _ _ _ _ i _ => l.length - (intOf i).toNat)
  case atStart => exact ⟨0, ⟨0, 0, 0, 0⟩, by omega, rfl, rfl, rfl, rfl, rfl, rfl, by simp, by simp, by simp, by simp, rfl⟩
  case round =>
    obtain ⟨j, ⟨n, a, p, k⟩, hj, rfl, hrun, rfl, rfl, rfl, rfl, hn, ha, hp, hk, rfl⟩ := hrel
    dsimp only at hn ha hp hk hrun
    by_cases hlt : j < l.length
    · have hx : l[j]? = some l[j] := List.getElem?_eq_getElem hlt
      have hnext := mrun_next l j _ _ hx hrun
      have hstop := mrun_stop l j
      obtain ⟨c, hlj⟩ : ∃ c, l[j] = c := ⟨_, rfl⟩
      rw [hlj] at hnext
      have HN := Lib.hid hnext
      have HS := Lib.hid hstop
      clear hnext hstop hrun hx
      have hcn : c.toNat < 256 := c.toNat_lt
      have hsp : j < (⟨l.toArray⟩ : ByteArray).size := by rw [hsz]; exact hlt
      have hch : (⟨l.toArray⟩ : ByteArray)[j]'hsp = c := hlj
      clear hlj
      by_cases hc : c.toNat = 46
      · have e46 : ((c.toNat : Int) == 46) = true := by simp; omega
        by_cases hk0 : k = 0
        · subst hk0
          go_wp2
          exact bodyPost_ret (v := .tuple #[.int .u32 0, .bool false]) (by simp [results, Tryd.results19, go_sem]) rfl ⟨by rw [HS.out (by rw [HN.out]; unfold mstep; rw [if_pos hc, if_pos rfl])]; rfl, rfl⟩
        · have ek : ((k : Int) == 0) = false := by simp; omega
          go_wp2
          refine ⟨⟨j + 1, ⟨0, (256 * a + n) % 4294967296, p + 1, 0⟩, by omega, by go_num, ?_, rfl, ?_, by go_num, rfl, by simp, by show _ % _ < _; omega, by show p + 1 ≤ j + 1; omega, by show 0 ≤ j + 1; omega, trivial⟩, by simp [intOf]; omega⟩
          · rw [HN.out]; unfold mstep; rw [if_pos hc, if_neg hk0]
          · refine congrArg (Value.int .u32) ?_
            show 256 * (a : Int) % 4294967296 + (n : Int) = (((256 * a + n) % 4294967296 : Nat) : Int)
            omega
      · have e46 : ((c.toNat : Int) == 46) = false := by simp; omega
        have hc' : ¬ (c.toNat : Int) = 46 := by omega
        by_cases b1 : c.toNat < 48
        · have b1' : (c.toNat : Int) < 48 := by omega
          go_wp2
          exact bodyPost_ret (v := .tuple #[.int .u32 0, .bool false]) (by simp [results, Tryd.results19, go_sem]) rfl ⟨by rw [HS.out (by rw [HN.out]; unfold mstep; rw [if_neg hc, if_pos (.inl b1)])]; rfl, rfl⟩
        by_cases b2 : 57 < c.toNat
        · have b1' : ¬ (c.toNat : Int) < 48 := by omega
          have b2' : (57 : Int) < (c.toNat : Int) := by omega
          go_wp2
          exact bodyPost_ret (v := .tuple #[.int .u32 0, .bool false]) (by simp [results, Tryd.results19, go_sem]) rfl ⟨by rw [HS.out (by rw [HN.out]; unfold mstep; rw [if_neg hc, if_pos (.inr (.inl b2))])]; rfl, rfl⟩
        have b1' : ¬ (c.toNat : Int) < 48 := by omega
        have b2' : ¬ (57 : Int) < (c.toNat : Int) := by omega
        by_cases b3 : 0 < k ∧ n = 0
        · obtain ⟨k0, rfl⟩ := b3
          go_wp2
          exact bodyPost_ret (v := .tuple #[.int .u32 0, .bool false]) (by simp [results, Tryd.results19, go_sem]) rfl ⟨by rw [HS.out (by rw [HN.out]; unfold mstep; rw [if_neg hc, if_pos (.inr (.inr (.inl ⟨k0, rfl⟩)))])]; rfl, rfl⟩
        by_cases b4 : 2 < k
        · have n0 : n ≠ 0 := fun e => b3 ⟨by omega, e⟩
          have k0 : 0 < k := by omega
          have b4' : (2 : Int) < (k : Int) := by omega
          go_wp2
          exact bodyPost_ret (v := .tuple #[.int .u32 0, .bool false]) (by simp [results, Tryd.results19, go_sem]) rfl ⟨by rw [HS.out (by rw [HN.out]; unfold mstep; rw [if_neg hc, if_pos (.inr (.inr (.inr (.inl b4))))])]; rfl, rfl⟩
        by_cases b5 : 3 < p
        · have b5' : (3 : Int) < (p : Int) := by omega
          by_cases k0 : 0 < k
          · have n0 : n ≠ 0 := fun e => b3 ⟨k0, e⟩
            go_wp2
            exact bodyPost_ret (v := .tuple #[.int .u32 0, .bool false]) (by simp [results, Tryd.results19, go_sem]) rfl ⟨by rw [HS.out (by rw [HN.out]; unfold mstep; rw [if_neg hc, if_pos (.inr (.inr (.inr (.inr b5))))])]; rfl, rfl⟩
          · obtain rfl : k = 0 := by omega
            go_wp2
            exact bodyPost_ret (v := .tuple #[.int .u32 0, .bool false]) (by simp [results, Tryd.results19, go_sem]) rfl ⟨by rw [HS.out (by rw [HN.out]; unfold mstep; rw [if_neg hc, if_pos (.inr (.inr (.inr (.inr b5))))])]; rfl, rfl⟩
        have hbad : ¬ (c.toNat < 48 ∨ 57 < c.toNat ∨ (0 < k ∧ n = 0) ∨ 2 < k ∨ 3 < p) := fun h => by
          rcases h with h | h | h | h | h
          · exact b1 h
          · exact b2 h
          · exact b3 h
          · exact b4 h
          · exact b5 h
        have HBAD := Lib.hid hbad
        clear hbad
        have b4' : ¬ (2 : Int) < (k : Int) := by omega
        have b5' : ¬ (3 : Int) < (p : Int) := by omega
        by_cases k0 : 0 < k
        · have n0 : n ≠ 0 := fun e => b3 ⟨k0, e⟩
          by_cases big : 255 < 10 * n + (c.toNat - 48)
          · have big' : (255 : Int) < 10 * (n : Int) + (c.toNat : Int) - 48 := by omega
            go_wp2
            exact bodyPost_ret (v := .tuple #[.int .u32 0, .bool false]) (by simp [results, Tryd.results19, go_sem]) rfl ⟨by rw [HS.out (by rw [HN.out]; unfold mstep; rw [if_neg hc, if_neg HBAD.out, if_pos big])]; rfl, rfl⟩
          · have big' : ¬ (255 : Int) < 10 * (n : Int) + (c.toNat : Int) - 48 := by omega
            go_wp2
            refine ⟨⟨j + 1, ⟨10 * n + (c.toNat - 48), a, p, k + 1⟩, by omega, by go_num, by rw [HN.out]; unfold mstep; rw [if_neg hc, if_neg HBAD.out, if_neg big], ?_, rfl, rfl, by go_num, by show 10 * n + (c.toNat - 48) ≤ 255; omega, ha, by show p ≤ j + 1; omega, by show k + 1 ≤ j + 1; omega, trivial⟩, by simp [intOf]; omega⟩
            refine congrArg (Value.int .u32) ?_
            show _ = ((10 * n + (c.toNat - 48) : Nat) : Int)
            omega
        · obtain rfl : k = 0 := by omega
          by_cases big : 255 < 10 * n + (c.toNat - 48)
          · have big' : (255 : Int) < 10 * (n : Int) + (c.toNat : Int) - 48 := by omega
            go_wp2
            exact bodyPost_ret (v := .tuple #[.int .u32 0, .bool false]) (by simp [results, Tryd.results19, go_sem]) rfl ⟨by rw [HS.out (by rw [HN.out]; unfold mstep; rw [if_neg hc, if_neg HBAD.out, if_pos big])]; rfl, rfl⟩
          · have big' : ¬ (255 : Int) < 10 * (n : Int) + (c.toNat : Int) - 48 := by omega
            go_wp2
            refine ⟨⟨j + 1, ⟨10 * n + (c.toNat - 48), a, p, 0 + 1⟩, by omega, by go_num, by rw [HN.out]; unfold mstep; rw [if_neg hc, if_neg HBAD.out, if_neg big], ?_, rfl, rfl, by go_num, by show 10 * n + (c.toNat - 48) ≤ 255; omega, ha, by show p ≤ j + 1; omega, by show 0 + 1 ≤ j + 1; omega, trivial⟩, by simp [intOf]; omega⟩
            refine congrArg (Value.int .u32) ?_
            show _ = ((10 * n + (c.toNat - 48) : Nat) : Int)
            omega
    · have hje : j = l.length := by omega
      subst hje
      rw [List.take_length] at hrun
      have hm : mach l = mEnd ⟨n, a, p, k⟩ := by unfold mach; rw [hrun]; rfl
      have HM := Lib.hid hm
      clear hm hrun
      by_cases p3 : p = 3
      · subst p3
        by_cases k0 : k = 0
        · subst k0
          go_wp2
          exact bodyPost_ret (v := .tuple #[.int .u32 0, .bool false]) (by simp [results, Tryd.results19, go_sem]) rfl ⟨by rw [HM.out]; rfl, rfl⟩
        · have ek : ((k : Int) == 0) = false := by simp; omega
          have he : mEnd ⟨n, a, 3, k⟩ = some ((256 * a + n) % 4294967296) := by unfold mEnd; rw [if_neg (fun h => h.elim (fun e => e rfl) k0)]
          have hv : 256 * (a : Int) % 4294967296 + (n : Int) = (((256 * a + n) % 4294967296 : Nat) : Int) := by omega
          have HE := Lib.hid he
          have HV := Lib.hid hv
          clear he hv
          go_wp2
          refine bodyPost_ret (v := .tuple #[.int .u32 (256 * (a : Int) % 4294967296 + (n : Int)), .bool true]) (by simp [results, Tryd.results19, go_sem]) rfl ⟨?_, rfl⟩
          rw [HM.out, HE.out, HV.out]; rfl
      · have ep : ((p : Int) != 3) = true := by simp; omega
        have ep2 : ¬ (p : Int) = 3 := by omega
        have he : mEnd ⟨n, a, p, k⟩ = none := by unfold mEnd; rw [if_pos (.inl p3)]
        have HE := Lib.hid he
        clear he
        go_wp2
        exact bodyPost_ret (v := .tuple #[.int .u32 0, .bool false]) (by simp [results, Tryd.results19, go_sem]) rfl ⟨by rw [HM.out, HE.out]; rfl, rfl⟩
end Go.Proofs.YtkenkjdelhmaoaaDoor
