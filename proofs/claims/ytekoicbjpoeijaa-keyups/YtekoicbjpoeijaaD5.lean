/- Levels of package dim: its iterator, told by the number of its rounds. No conditions beyond ranges. -/
import Derived.Test.YtekoicbjpoeijaaD4
namespace Go.Proofs.Ytekoicbjpoeijaa
set_option linter.unusedVariables false
set_option linter.unusedSimpArgs false
open Go.RowKit
attribute [local go_sem] Oper.semAt_some
/-- how many levels there are -/
def cntD (d : Dm) : Nat := if rightD d = true then (depthD d).toNat + 1 else 0
theorem cntD_ok {d : Dm} (h : rightD d = true) : (cntD d : Int) = depthD d + 1 := by
  unfold cntD
  rw [if_pos h]
  have := (depth_range h).1
  omega
theorem cntD_bad {d : Dm} (h : rightD d = false) : cntD d = 0 := by unfold cntD; rw [h]; rfl
theorem abides_below {β : Type} {B : Nat} {J : β → World → Prop} (h : AbidesFrom B J) {s : β} {W W' : World} (hs : J s W) (hb : Below W.heap.size W W') : J s W' :=
  h s W W' none hs ⟨hb.os, hb.tape, hb.output, hb.size, fun k hk _ => hb.block k hk⟩ (fun r e => by cases e)
def levF (d : Dm) (k : Nat) : Array Value := #[.int .i64 k, .int .i64 (lenD d k)]
set_option maxRecDepth 100000 in
set_option maxHeartbeats 4000000 in
theorem levels1_in (d : Dm) (n g : Nat) (w : World) (hR : Row w g #[.int .i64 d.kind, .int .i64 d.side, .int .i64 d.step] 53) :
    SeqN Fence.wide n Try.prog 82 #[.pointer (some ⟨g, 0, none⟩)] (levF d) (fun V V' => V'.heap[g]? = V.heap[g]?) (cntD d) w := by
  intro i J Jx W hb hJ hJx hY h0
  have R := hR.below hb hR.lt
  have HR := fun w1 => dright_t d w1
  have HE := fun w1 => ddepth_t d w1
  have HL := fun (l : Int) w1 => dlen_t d l w1
  have hc1 := @cntD_ok d
  have hc2 := @cntD_bad d
  have hq := @depth_range d
  unfold dv at HR HE HL
  clear hb hR
  have c0 := (R.cell 0).trans (show _ = some (Value.int .i64 d.kind) from rfl)
  have c1 := (R.cell 1).trans (show _ = some (Value.int .i64 d.side) from rfl)
  have c2 := (R.cell 2).trans (show _ = some (Value.int .i64 d.step) from rfl)
  refine callsIn_of_wp Try.func82 rfl trivial ?_ rfl
  simp only [Try.ntmps82, List.size_toArray, List.length_cons, List.length_nil, Nat.reduceAdd, Nat.reduceSub, Array.replicate_succ, Array.replicate_zero, List.push_toArray, List.append_toArray, List.nil_append, List.cons_append]
  have HJ := Lib.hid (And.intro hJ hJx)
  have hY' := Lib.hid hY
  have H0 := Lib.hid h0
  have HRR := Lib.hid R
  clear hY hJ hJx h0 R
  generalize hN : cntD d = N at *
  generalize rightD d = rd at *
  generalize depthD d = q at *
  cases rd with
  | false =>
    have hN0 := hc2 rfl
    subst hN0
    clear hc1 hc2 hq
    gi_wp2
    refine ⟨trivial, fun h => (by cases h), (callsIn_wide.2 (HR W)).mono ?_⟩
    rintro e w1 ⟨rfl, hb⟩
    have J1 := abides_below HJ.out.1 H0.out hb
    clear hb c0 c1 c2 HR HE HL
    gi_wp2
    exact bodyPost_ret (results_none rfl _ _ _) rfl ⟨⟨_, rfl⟩, .inl J1⟩
  | true =>
    have hN0 := hc1 rfl
    obtain ⟨q1, q2, _, _⟩ := hq rfl
    clear hc1 hc2 hq
    gi_wp2
    refine ⟨trivial, fun h => (by cases h), (callsIn_wide.2 (HR W)).mono ?_⟩
    rintro e w1 ⟨rfl, hb⟩
    have J1 := abides_below HJ.out.1 H0.out hb
    have R1 := HRR.out.later hb
    replace c0 := cell_later hb c0
    replace c1 := cell_later hb c1
    replace c2 := cell_later hb c2
    clear hb HR H0 HRR
    gi_wp2
    refine ⟨trivial, fun h => (by cases h), (callsIn_wide.2 (HE w1)).mono ?_⟩
    rintro e w2 ⟨rfl, hb⟩
    replace J1 := Lib.hid (abides_below HJ.out.1 J1 hb)
    replace R1 := Lib.hid (R1.later hb)
    clear hb HE c0 c1 c2
    have qN : q + 1 = (N : Int) := by omega
    have wr1 : IntKind.i64.wrap (q + 1) = q + 1 := IntWalk.i64_in _ (by omega)
    have N8 : N ≤ 129 := by omega
    obtain rfl : q = (N : Int) - 1 := by omega
    have qN2 : (N : Int) - 1 + 1 = (N : Int) := by omega
    clear qN wr1 hN0 q1 q2
    gi_wp2
    gi_loopw [10] (fun iv wr => ∃ k : Nat, iv = .int .i64 k ∧ k ≤ N ∧ Hid (J k wr) ∧ Hid (Row wr g #[.int .i64 d.kind, .int .i64 d.side, .int .i64 d.step] 53)) (fun iv _ => N - (intOf iv).toNat)
    case atStart => exact ⟨0, rfl, Nat.zero_le _, J1, R1⟩
    case round =>
      clear J1 R1
      obtain ⟨k, rfl, hk, hJk, hRk⟩ := hrel
      by_cases hlt : k < N
      · have hlt' : (k : Int) < (N : Int) := by omega
        have c0 := (hRk.out.cell 0).trans (show _ = some (Value.int .i64 d.kind) from rfl)
        have c1 := (hRk.out.cell 1).trans (show _ = some (Value.int .i64 d.side) from rfl)
        have c2 := (hRk.out.cell 2).trans (show _ = some (Value.int .i64 d.step) from rfl)
        gi_wp2
        refine ⟨trivial, fun h => (by cases h), (callsIn_wide.2 (HL k wr)).mono ?_⟩
        rintro e w3 ⟨rfl, hb⟩
        have J2 := abides_below HJ.out.1 hJk.out hb
        have R2 := hRk.out.later hb
        clear hb c0 c1 c2 hJk hRk
        obtain ⟨fn, tmps, assign, body, hy, hR⟩ := hY'.out k w3 hlt J2
        have hpf : levF d k = #[.int .i64 k, .int .i64 (lenD d k)] := rfl
        rw [hpf] at hy
        replace R2 := Lib.hid R2
        clear J2 hpf
        gi_wp2
        refine ⟨fun h => (by cases h), hR.mono ?_⟩
        rintro e W3 (⟨rfl, hJ3, hK3⟩ | ⟨rfl, hJx3⟩)
        · have R3 := Lib.hid (show Row W3 g _ _ from hK3.trans R2.out)
          replace hJ3 := Lib.hid hJ3
          clear hK3
          gi_wp2
          exact ⟨⟨k + 1, by go_num, by omega, hJ3, R3⟩, by simp [intOf]; omega⟩
        · gi_wp2
          refine bodyPost_ret (results_none rfl _ _ _) rfl ?_
          exact ⟨⟨_, rfl⟩, .inr ⟨_, by omega, hJx3⟩⟩
      · have hkN : k = N := by omega
        subst hkN
        gi_wp2
        go_end0
        exact ⟨⟨_, rfl⟩, .inl hJk.out⟩
theorem levels_t (d : Dm) (w : World) : Calls Try.prog 68 #[dv d] w fun e w' => e = .returned (.func (.func 82) #[] #[.pointer (some ⟨w.heap.size, 0, none⟩)]) ∧ w' = w.alloc (.cells #[.int .i64 d.kind, .int .i64 d.side, .int .i64 d.step] 53) := by
  have hmf : ∀ (fn : Fn) (first cap : Array Value) (w : World), (Instr.makeFunc fn first cap).run Try.prog w = .ok (.func fn first cap) w := fun _ _ _ _ => rfl
  unfold dv
  go_enter Try.func68, Try.ntmps68
  go_wp2
  go_ret
  exact ⟨rfl, rfl⟩
end Go.Proofs.Ytekoicbjpoeijaa
