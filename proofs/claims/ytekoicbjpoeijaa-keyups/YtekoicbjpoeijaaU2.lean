/- Up of package key: its iterator, told by the number of its rounds. No conditions beyond lengths. -/
import Derived.Test.YtekoicbjpoeijaaU1
import Derived.Test.YtekoicbjpoeijaaD5
namespace Go.Proofs.Ytekoicbjpoeijaa
set_option linter.unusedVariables false
set_option linter.unusedSimpArgs false
open Go.RowKit
attribute [local go_sem] Oper.semAt_some
/-- how many keys there are over a key, itself among them -/
def upN (k : Ke) : Nat := if rightK k = true then k.len.toNat + 1 else 0
/-- the key at place j -/
def upK (k : Ke) (j : Nat) : Ke := topK k (k.len - (j : Int))
def upF (k : Ke) (j : Nat) : Array Value := #[kv (upK k j)]
set_option maxRecDepth 100000 in
set_option maxHeartbeats 4000000 in
theorem up1_in (k : Ke) (ok : k.ok) (n g : Nat) (w : World) (hR : Row w g #[.int .i64 k.kind, .int .i64 k.len, .int .u64 k.h, .int .u64 k.l, .string ⟨k.path.toArray⟩] 24) :
    SeqN Fence.wide n Try.prog 79 #[.pointer (some ⟨g, 0, none⟩)] (upF k) (fun V V' => V'.heap[g]? = V.heap[g]?) (upN k) w := by
  intro i J Jx W hb hJ hJx hY h0
  have R := hR.below hb hR.lt
  have HR := fun w1 => kright_t k ok w1
  have HT : ∀ (j : Nat) w1, Calls Try.prog 55 #[kv k, .int .i64 (k.len - (j : Int))] w1 fun e w' => e = .returned (kv (upK k j)) ∧ Below w1.heap.size w1 w' := fun j w1 => ktop_t k (k.len - (j : Int)) ok.h ok.l (by have := ok.n1; omega) ok.path w1
  have hN : rightK k = true → (upN k : Int) = k.len + 1 ∧ 0 ≤ k.len ∧ k.len ≤ 128 := fun h => by
    have := len_range h
    unfold upN; rw [if_pos h]; omega
  have hN0 : rightK k = false → upN k = 0 := fun h => by unfold upN; rw [h]; rfl
  have hkv : kv k = .agg #[.int .i64 k.kind, .int .i64 k.len, .int .u64 k.h, .int .u64 k.l, .string ⟨k.path.toArray⟩] := rfl
  rw [hkv] at HR
  rw [hkv] at HT
  clear hb hR ok hkv
  have hF : ∀ j, upF k j = #[kv (upK k j)] := fun _ => rfl
  generalize upF k = F at *
  generalize upK k = U at *
  generalize upN k = N at *
  generalize rightK k = rk at *
  obtain ⟨kd, len, kh, kl, kp⟩ := k
  dsimp only at *
  have c0 := (R.cell 0).trans (show _ = some (Value.int .i64 kd) from rfl)
  have c1 := (R.cell 1).trans (show _ = some (Value.int .i64 len) from rfl)
  have c2 := (R.cell 2).trans (show _ = some (Value.int .u64 kh) from rfl)
  have c3 := (R.cell 3).trans (show _ = some (Value.int .u64 kl) from rfl)
  have c4 := (R.cell 4).trans (show _ = some (Value.string ⟨kp.toArray⟩) from rfl)
  refine callsIn_of_wp Try.func79 rfl trivial ?_ rfl
  simp only [Try.ntmps79, List.size_toArray, List.length_cons, List.length_nil, Nat.reduceAdd, Nat.reduceSub, Array.replicate_succ, Array.replicate_zero, List.push_toArray, List.append_toArray, List.nil_append, List.cons_append]
  have HJ := Lib.hid (And.intro hJ hJx)
  have hY' := Lib.hid hY
  have H0 := Lib.hid h0
  have HRR := Lib.hid R
  have HF := Lib.hid hF
  clear hY hJ hJx h0 R hF
  cases rk with
  | false =>
    have e0 := hN0 rfl
    subst e0
    clear hN hN0
    gi_wp2
    refine ⟨trivial, fun h => (by cases h), (callsIn_wide.2 (HR W)).mono ?_⟩
    rintro e w1 ⟨rfl, hb⟩
    have J1 := abides_below HJ.out.1 H0.out hb
    clear hb c0 c1 c2 c3 c4 HR HT
    gi_wp2
    exact bodyPost_ret (results_none rfl _ _ _) rfl ⟨⟨_, rfl⟩, .inl J1⟩
  | true =>
    obtain ⟨n1, n2, n3⟩ := hN rfl
    clear hN hN0
    gi_wp2
    refine ⟨trivial, fun h => (by cases h), (callsIn_wide.2 (HR W)).mono ?_⟩
    rintro e w1 ⟨rfl, hb⟩
    have J1 := Lib.hid (abides_below HJ.out.1 H0.out hb)
    have R1 := Lib.hid (HRR.out.later hb)
    replace c1 := cell_later hb c1
    have n1' := Lib.hid n1
    clear hb HR H0 HRR c0 c2 c3 c4 n1
    gi_wp2
    gi_loopw [3] (fun nv wr => ∃ j : Nat, nv = .int .i64 (len - (j : Int)) ∧ j ≤ N ∧ Hid (J j wr) ∧ Hid (Row wr g #[.int .i64 kd, .int .i64 len, .int .u64 kh, .int .u64 kl, .string ⟨kp.toArray⟩] 24)) (fun nv _ => (intOf nv + 1).toNat)
    case atStart => exact ⟨0, by simp, Nat.zero_le _, J1, R1⟩
    case round =>
      clear J1 R1 c1
      obtain ⟨j, rfl, hj, hJj, hRj⟩ := hrel
      have nn := n1'.out
      by_cases hlt : j < N
      · have h1 : 0 ≤ len - (j : Int) := by omega
        have h2 : (j : Int) ≤ len := by omega
        have c0 := (hRj.out.cell 0).trans (show _ = some (Value.int .i64 kd) from rfl)
        have c1 := (hRj.out.cell 1).trans (show _ = some (Value.int .i64 len) from rfl)
        have c2 := (hRj.out.cell 2).trans (show _ = some (Value.int .u64 kh) from rfl)
        have c3 := (hRj.out.cell 3).trans (show _ = some (Value.int .u64 kl) from rfl)
        have c4 := (hRj.out.cell 4).trans (show _ = some (Value.string ⟨kp.toArray⟩) from rfl)
        have HTj := HT j wr
        clear HT nn
        gi_wp2
        refine ⟨trivial, fun h => (by cases h), (callsIn_wide.2 HTj).mono ?_⟩
        rintro e w3 ⟨rfl, hb⟩
        have J2 := abides_below HJ.out.1 hJj.out hb
        have R2 := hRj.out.later hb
        clear hb c0 c1 c2 c3 c4 hJj hRj HTj
        obtain ⟨fn, tmps, assign, body, hy, hRb⟩ := hY'.out j w3 hlt J2
        rw [HF.out j] at hy
        replace R2 := Lib.hid R2
        clear J2
        gi_wp2
        refine ⟨fun h => (by cases h), hRb.mono ?_⟩
        rintro e W3 (⟨rfl, hJ3, hK3⟩ | ⟨rfl, hJx3⟩)
        · have R3 := Lib.hid (show Row W3 g _ _ from hK3.trans R2.out)
          replace hJ3 := Lib.hid hJ3
          clear hK3
          gi_wp2
          refine ⟨⟨j + 1, ?_, by omega, hJ3, R3⟩, ?_⟩
          · congr 1; omega
          · simp [intOf]; omega
        · gi_wp2
          refine bodyPost_ret (results_none rfl _ _ _) rfl ?_
          exact ⟨⟨_, rfl⟩, .inr ⟨_, by omega, hJx3⟩⟩
      · have hjN : j = N := by omega
        subst hjN
        have h1 : ¬ 0 ≤ len - (j : Int) := by omega
        have h2 : ¬ (j : Int) ≤ len := by omega
        have h3 : decide ((j : Int) ≤ len) = false := decide_eq_false h2
        have h4 : decide (0 ≤ len - (j : Int)) = false := decide_eq_false h1
        clear nn
        gi_wp2
        go_end0
        exact ⟨⟨_, rfl⟩, .inl hJj.out⟩
theorem up_t (k : Ke) (w : World) : Calls Try.prog 61 #[kv k] w fun e w' => e = .returned (.func (.func 79) #[] #[.pointer (some ⟨w.heap.size, 0, none⟩)]) ∧ w' = w.alloc (.cells #[.int .i64 k.kind, .int .i64 k.len, .int .u64 k.h, .int .u64 k.l, .string ⟨k.path.toArray⟩] 24) := by
  have hmf : ∀ (fn : Fn) (first cap : Array Value) (w : World), (Instr.makeFunc fn first cap).run Try.prog w = .ok (.func fn first cap) w := fun _ _ _ _ => rfl
  unfold kv
  go_enter Try.func61, Try.ntmps61
  go_wp2
  go_ret
  exact ⟨rfl, rfl⟩
end Go.Proofs.Ytekoicbjpoeijaa
