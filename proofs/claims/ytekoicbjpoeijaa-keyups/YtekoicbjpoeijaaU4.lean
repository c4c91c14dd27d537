/- The first keys that Up yields, as the law gathers them. No conditions beyond lengths. -/
import Derived.Test.YtekoicbjpoeijaaU3
import Derived.Test.YtekoicbjpoeijaaLab3
import Derived.Test.YtekoicbjpoeijaaRangeNA
namespace Go.Proofs.Ytekoicbjpoeijaa
set_option linter.unusedVariables false
set_option linter.unusedSimpArgs false
open Go.RowKit
attribute [local go_sem] Oper.semAt_some
theorem wpListIn_appR {F : Fence} {n : Nat} {P : Program} {w w' : World} {ops : Array Oper} {rest : List Oper} {o : Oper} {a : Act} {Q : Exit → Act → World → Prop} (hg : o.guard = none) (s x : Operand) (t : TypeId) (hop : o.op = .call { callee := .builtin .append, args := #[s, x], argTypes := #[t, t] })
    {v bv v' : Value} (hs : a.eval s = v) (hx : a.eval x = bv) (hr : (Builtin.append_ #[t, t] o.type #[v, bv]).run P w = .ok v' w') (hK : wpListIn F n P ops Q rest (a.put o.dst v') w') : wpListIn F n P ops Q (o :: rest) a w := by
  refine wpListIn_plain hg fun K hK' => ?_
  unfold Oper.wpIn
  refine ⟨by simp [Oper.about, hop, resolve, Target.leads, Sem.run_pure], ?_⟩
  rw [Oper.semAt_plain F _ _ (by rw [hop]; intro c hc; cases hc)]
  unfold execOp
  simp only [hop, resolve, invoke, builtin, Sem.run_bind, Sem.run_pure, Result.andThen_ok, List.map_toArray, List.map_cons, List.map_nil, hs, hx, hr]
  exact hK' _ _ hK
theorem OwnK.grown {base : Nat} {w w' : World} {v : Value} {l : List Ke} {row : Option Nat} (h : OwnK base w v l) (hg : w.grownBy w' row) (hrow : ∀ r, row = some r → ∃ o : Obj, w.heap[r]? = some o ∧ o.isCells = false) : OwnK base w' v l :=
  h.kept (fun g cs t fr hgc => (hg.block g (Array.getElem?_eq_some_iff.1 hgc).1 (fun e => by obtain ⟨o, ho, hc⟩ := hrow g e.symm; rw [hgc] at ho; cases ho; cases hc)).trans hgc)
theorem OwnK.set {base : Nat} {w : World} {v : Value} {l : List Ke} (h : OwnK base w v l) {g : Nat} (i : Nat) (u : Value) (hg : g < base) : OwnK base (w.setCell ⟨g, i, none⟩ u) v l := by
  obtain ⟨hl, h⟩ := h
  refine ⟨hl, ?_⟩
  rcases h with h | ⟨g', cap, cur, hv, hbs, hr, h1⟩
  · exact .inl h
  · exact .inr ⟨g', cap, cur, hv, hbs, (heap_setCell_other w _ g' _ (by simp; omega)).trans hr, h1⟩
/-- what an append onto the own row, behind a new block, leaves of the rest -/
theorem keeps_app {base : Nat} {w w' : World} {v : Value} {l : List Ke} {o : Obj} (ho : OwnK base w v l) (hg : (w.alloc o).grownBy w' v.ownBlock) (B : Nat) : KeepsFrom B w w' := by
  have hbn : Below w.heap.size w (w.alloc o) := (Below.refl _ _).alloc (Nat.le_refl _) _
  refine ⟨Nat.le_trans hbn.size hg.size, fun k o' _ hk hc => ?_⟩
  have hlt := (Array.getElem?_eq_some_iff.1 hk).1
  refine (hg.block k (Nat.lt_of_lt_of_le hlt hbn.size) (fun e => ?_)).trans ((hbn.block k hlt).trans hk)
  obtain ⟨_, _, o2, h2, h3⟩ := ho.block k e.symm
  rw [hk] at h2; cases h2; rw [hc] at h3; cases h3
theorem row_app {base : Nat} {w w' : World} {v : Value} {l : List Ke} {o : Obj} (ho : OwnK base w v l) (hg : (w.alloc o).grownBy w' v.ownBlock) {g : Nat} {cs : Array Value} {t : TypeId} (R : Row w g cs t) (hb : g < base) : Row w' g cs t := by
  have R2 := R.alloc o
  exact (hg.block g R2.lt (fun e => by have := (ho.block g e.symm).1; omega)).trans R2
theorem block_app {base : Nat} {w w' : World} {v : Value} {l : List Ke} {o : Obj} (ho : OwnK base w v l) (hg : (w.alloc o).grownBy w' v.ownBlock) {g : Nat} (hgw : g < w.heap.size) (hb : g < base) : w'.heap[g]? = w.heap[g]? :=
  (hg.block g (by simp; omega) (fun e => by have := (ho.block g e.symm).1; omega)).trans (Below.heap_alloc w o g hgw)
theorem upT_ob (k : Ke) (j : Nat) : kv (upK k j) = .agg #[.int .i64 (upK k j).kind, .int .i64 (upK k j).len, .int .u64 (upK k j).h, .int .u64 (upK k j).l, .string ⟨(upK k j).path.toArray⟩] := rfl
theorem upN_le {k : Ke} : upN k ≤ 129 := by
  unfold upN
  split
  · rename_i h; have := len_range h; omega
  · omega
set_option maxRecDepth 100000 in
set_option maxHeartbeats 8000000 in
theorem first_t (k : Ke) (ok : k.ok) (most : Int) (w : World) : Calls Try.prog 34 #[kv k, .int .i64 most] w fun e w' => ∃ v, e = .returned (.tuple #[v, .bool true]) ∧ KS w' v (upT k (min most.toNat (upN k))) ∧ Below w.heap.size w w' := by
  refine (callsIn_wide (n := 3)).1 ?_
  refine callsIn_of_wp_marks Try.func34 rfl trivial ?_ rfl
  simp only [Try.ntmps34, List.size_toArray, List.length_cons, List.length_nil, Nat.reduceAdd, Nat.reduceSub, Array.replicate_succ, Array.replicate_zero, List.push_toArray, List.append_toArray, List.nil_append, List.cons_append]
  have HU := up_t k
  have hnil : ∀ (fn : Fn) (a b : Array Value) (w : World), (binOp .eql 73 (.func fn a b) .nilFunc).run Try.prog w = .ok (.bool false) w := fun fn a b w => by kernel_rfl
  have hN9 := @upN_le k
  unfold kv at *
  gi_wp2
  refine ⟨trivial, (callsIn_wide.2 (HU _)).mono ?_⟩
  rintro e w1 ⟨rfl, rfl⟩
  gi_wp2
  obtain ⟨_, R1, R2, hB0⟩ := three_rows w #[.int .i64 k.kind, .int .i64 k.len, .int .u64 k.h, .int .u64 k.l, .string ⟨k.path.toArray⟩] #[.int .i64 most] #[.slice none 0 0] 24 3 44
  replace R1 := R1.alloc (.cells #[.int .i64 k.kind, .int .i64 k.len, .int .u64 k.h, .int .u64 k.l, .string ⟨k.path.toArray⟩] 24)
  replace R2 := R2.alloc (.cells #[.int .i64 k.kind, .int .i64 k.len, .int .u64 k.h, .int .u64 k.l, .string ⟨k.path.toArray⟩] 24)
  have R3 := Row.new (((w.alloc (.cells #[.int .i64 k.kind, .int .i64 k.len, .int .u64 k.h, .int .u64 k.l, .string ⟨k.path.toArray⟩] 24)).alloc (.cells #[.int .i64 most] 3)).alloc (.cells #[.slice none 0 0] 44)) #[.int .i64 k.kind, .int .i64 k.len, .int .u64 k.h, .int .u64 k.l, .string ⟨k.path.toArray⟩] 24
  rw [World.size_alloc, World.size_alloc, World.size_alloc] at R3
  replace hB0 := hB0.alloc hB0.size (.cells #[.int .i64 k.kind, .int .i64 k.len, .int .u64 k.h, .int .u64 k.l, .string ⟨k.path.toArray⟩] 24)
  have hs0 := hB0.size
  generalize (((w.alloc (.cells #[.int .i64 k.kind, .int .i64 k.len, .int .u64 k.h, .int .u64 k.l, .string ⟨k.path.toArray⟩] 24)).alloc (.cells #[.int .i64 most] 3)).alloc (.cells #[.slice none 0 0] 44)).alloc (.cells #[.int .i64 k.kind, .int .i64 k.len, .int .u64 k.h, .int .u64 k.l, .string ⟨k.path.toArray⟩] 24) = w0 at *
  have hg3 := R3.lt
  refine wpIn_rangeNA rfl (by omega) (gf := 79) (lb := #[.pointer (some ⟨w.heap.size + 1 + 1 + 1, 0, none⟩)]) rfl trivial (enters_of Try.func79 (by kernel_rfl) rfl)
    (up1_in k ok _ (w.heap.size + 1 + 1 + 1) w0 R3) (fun h1 h2 => h2.trans h1) (fun W l o o' hl _ _ _ => World.putObj_heap_other (by omega)) (fun W o hW => Below.heap_alloc W o _ (by omega)) (Below.refl _ _) (fun _ => rfl)
    (fun j W => ((∃ po co, Row W (w.heap.size + 1 + 1) #[.slice po j co] 44 ∧ OwnK w0.heap.size W (.slice po j co) (upT k j)) ∧ Row W (w.heap.size + 1) #[.int .i64 most] 3 ∧ ((j : Int) ≤ most ∨ j = 0)) ∧ Below w.heap.size w W)
    (fun c _ W => (c = .exit 0 ∧ ∃ po m co, Row W (w.heap.size + 1 + 1) #[.slice po m co] 44 ∧ OwnK w0.heap.size W (.slice po m co) (upT k (min most.toNat (upN k)))) ∧ Below w.heap.size w W)
    (OwnFrom.and (Own.from (fun s A B row hs hg hr => by obtain ⟨⟨po, co, h1, h2⟩, h3, h4⟩ := hs; exact ⟨⟨po, co, row_kept h1 hg hr, h2.grown hg hr⟩, row_kept h3 hg hr, h4⟩) _) (ownFrom_below (Nat.le_refl _) hs0))
    (fun c => OwnFrom.and (Own.from (fun s A B row hs hg hr => by obtain ⟨h0, po, m, co, h1, h2⟩ := hs; exact ⟨h0, po, m, co, row_kept h1 hg hr, h2.grown hg hr⟩) _) (ownFrom_below (Nat.le_refl _) hs0))
    ⟨⟨⟨none, 0, R2, OwnK.nil _ _⟩, R1, .inr rfl⟩, hB0⟩
    (fun j => .cells #[.int .i64 (upK k j).kind, .int .i64 (upK k j).len, .int .u64 (upK k j).h, .int .u64 (upK k j).l, .string ⟨(upK k j).path.toArray⟩] 24)
    (fun j b => { tmps := #[.agg #[.int .i64 k.kind, .int .i64 k.len, .int .u64 k.h, .int .u64 k.l, .string ⟨k.path.toArray⟩], .int .i64 most, .pointer (some ⟨w.heap.size, 0, none⟩), .pointer (some ⟨w.heap.size + 1, 0, none⟩), .slice none 0 0, .bool false, .pointer (some ⟨w.heap.size + 1 + 1, 0, none⟩), .func (.func 79) #[] #[.pointer (some ⟨w.heap.size + 1 + 1 + 1, 0, none⟩)], .pointer (some ⟨b, 0, none⟩), .agg #[.int .i64 k.kind, .int .i64 k.len, .int .u64 k.h, .int .u64 k.l, .string ⟨k.path.toArray⟩], .func (.func 79) #[] #[.pointer (some ⟨w.heap.size + 1 + 1 + 1, 0, none⟩)], .func (.func 79) #[] #[.pointer (some ⟨w.heap.size + 1 + 1 + 1, 0, none⟩)], .bool false, .func (.func 79) #[] #[.pointer (some ⟨w.heap.size + 1 + 1 + 1, 0, none⟩)], .agg #[.int .i64 (upK k j).kind, .int .i64 (upK k j).len, .int .u64 (upK k j).h, .int .u64 (upK k j).l, .string ⟨(upK k j).path.toArray⟩], undef, undef, undef, undef, undef, undef, undef, undef, undef], defers := [] }) ?assign ?body ?done ?stop
  case assign =>
    intro i j W K hK
    unfold upF
    rw [upT_ob]
    gi_wp2
    exact hK
  case body =>
    rintro i j b W hjN ⟨⟨⟨po, co, RO, HO⟩, RM, hjm⟩, hB⟩ hbx hb0
    have RX : Row W b #[.int .i64 (upK k j).kind, .int .i64 (upK k j).len, .int .u64 (upK k j).h, .int .u64 (upK k j).l, .string ⟨(upK k j).path.toArray⟩] 24 := hbx
    have c6 := (RO.cell 0).trans (show _ = some (Value.slice po j co) from rfl)
    have f6 := RO.frozen 0
    have c3 := (RM.cell 0).trans (show _ = some (Value.int .i64 most) from rfl)
    have hs1 : w.heap.size ≤ w.heap.size + 1 + 1 := by omega
    have hbW := RX.lt
    have hRO := Lib.hid RO
    have hRM := Lib.hid RM
    have hHO := Lib.hid HO
    have hHB := Lib.hid hB
    by_cases hge : most ≤ (j : Int)
    · have hmin : min most.toNat (upN k) = j := by omega
      have HF := Lib.hid (show OwnK w0.heap.size W (.slice po j co) (upT k (min most.toNat (upN k))) by rw [hmin]; exact HO)
      clear RX RO RM HO hB hjm hmin R1 R2 R3 hB0
      gi_wp2
      exact ⟨KeepsFrom.refl _ _, ⟨rfl, po, j, co, hRO.out, HF.out⟩, hHB.out⟩
    · have hlt : (j : Int) < most := by omega
      have x0 := (RX.cell 0).trans (show _ = some (Value.int .i64 (upK k j).kind) from rfl)
      have x1 := (RX.cell 1).trans (show _ = some (Value.int .i64 (upK k j).len) from rfl)
      have x2 := (RX.cell 2).trans (show _ = some (Value.int .u64 (upK k j).h) from rfl)
      have x3 := (RX.cell 3).trans (show _ = some (Value.int .u64 (upK k j).l) from rfl)
      have x4 := (RX.cell 4).trans (show _ = some (Value.string ⟨(upK k j).path.toArray⟩) from rfl)
      obtain ⟨v', w3, hrun, hown, hgrow⟩ := appK_one (upK k j) HO (by rw [upT_len]; omega) (by omega)
      rw [← upT_succ] at hown
      obtain ⟨pv, cv, hpv, _, _⟩ := hown.read
      rw [upT_len] at hpv
      subst hpv
      have RO3 := row_app HO hgrow RO (by omega)
      have RM3 := row_app HO hgrow RM (by omega)
      have K3 := keeps_app HO hgrow w0.heap.size
      have BU := block_app HO hgrow (g := w.heap.size + 1 + 1 + 1) (by omega) (by omega)
      have HB3 := appK_below HO (Below.refl w0.heap.size W) (by omega) hgrow
      have hB3 := Lib.hid (hB.trans (HB3.mono (show w.heap.size ≤ w0.heap.size by omega)))
      have d6 := (RO3.cell 0).trans (show _ = some (Value.slice po j co) from rfl)
      have df6 := RO3.frozen 0
      have HFIN := Lib.hid (show KeepsFrom w0.heap.size W (w3.setCell ⟨w.heap.size + 1 + 1, 0, none⟩ (.slice pv (j + 1) cv)) from K3.trans ((KeepsOthers.setCell _ _ _).from _))
      have HKP := Lib.hid (show (w3.setCell ⟨w.heap.size + 1 + 1, 0, none⟩ (.slice pv (j + 1) cv)).heap[w.heap.size + 1 + 1 + 1]? = W.heap[w.heap.size + 1 + 1 + 1]? from (heap_setCell_other _ _ _ _ (by simp)).trans BU)
      have HROW := Lib.hid (show Row (w3.setCell ⟨w.heap.size + 1 + 1, 0, none⟩ (.slice pv (j + 1) cv)) (w.heap.size + 1 + 1) #[.slice pv (j + 1) cv] 44 from RO3.set 0 (.slice pv (j + 1) cv))
      have HROM := Lib.hid (RM3.set_far ⟨w.heap.size + 1 + 1, 0, none⟩ (.slice pv (j + 1) cv) (by simp))
      have HOWN := Lib.hid (hown.set 0 (.slice pv (j + 1) cv) (show w.heap.size + 1 + 1 < w0.heap.size by omega))
      have HBEL := Lib.hid (hB3.out.setCell (p := ⟨w.heap.size + 1 + 1, 0, none⟩) hs1 (.slice pv (j + 1) cv))
      have HRUN := Lib.hid hrun
      have hge' : decide (most ≤ (j : Int)) = false := decide_eq_false hge
      clear RX RO RM HO hB hjm hge hrun hown hgrow RO3 RM3 K3 BU HB3 R1 R2 R3 hB0 hHO hHB hRO hRM hB3 hbx
      generalize upK k j = u at *
      gi_wp2_with ((with_reducible refine wpListIn_appR (o := ⟨some 22, _, _, _, _, _⟩) ?_ (.tmp 19) (.tmp 21) 44 ?_ (v := .slice po j co) (bv := .slice (some ⟨W.heap.size, 0, none⟩) 1 1) ?_ ?_ HRUN.out ?_); (with_reducible rfl); (with_reducible rfl); rfl; rfl; clear HRUN)
      exact ⟨HFIN.out, HKP.out, ⟨⟨pv, cv, HROW.out, HOWN.out⟩, HROM.out, .inl (by omega)⟩, HBEL.out⟩
  case done =>
    rintro D W hD ⟨⟨⟨po, co, RO, HO⟩, _, hjm⟩, hB⟩ hK
    have hmin : min most.toNat (upN k) = upN k := by omega
    have c6 := (RO.cell 0).trans (show _ = some (Value.slice po (upN k) co) from rfl)
    have HP := HO.grown (grownBy_putObj' W D (.deferred none)) (fun r e => by cases e; exact ⟨_, hK, rfl⟩)
    have HF := Lib.hid (show KS (W.putObj D (.deferred none)) (.slice po (upN k) co) (upT k (min most.toNat (upN k))) by rw [hmin]; exact HP.read)
    have hc5 := ((row_put RO (.deferred none) hK rfl).cell 0).trans (show _ = some (Value.slice po (upN k) co) from rfl)
    clear RO HO HP hjm hmin R1 R2 R3 hB0
    gi_wp2
    refine ⟨by simp, .inl ⟨_, _, rfl, run_takeDeferred hK, ?_⟩⟩
    refine ⟨.tuple #[.slice po (upN k) co, .bool true], ?_, ⟨_, rfl, HF.out, hB.trans (belowK_b (w := w) (Nat.le_refl _) W D _ _ (by omega) hK rfl rfl)⟩⟩
    simp only [results, Try.results34]
    simp [go_sem, hc5]
  case stop =>
    rintro D c j W hD _ ⟨⟨rfl, po, m, co, RO, HO⟩, hB⟩ hK
    have c6 := (RO.cell 0).trans (show _ = some (Value.slice po m co) from rfl)
    have HP := HO.grown (grownBy_putObj' W D (.deferred none)) (fun r e => by cases e; exact ⟨_, hK, rfl⟩)
    have HF := Lib.hid HP.read
    have hc5 := ((row_put RO (.deferred none) hK rfl).cell 0).trans (show _ = some (Value.slice po m co) from rfl)
    clear RO HO HP R1 R2 R3 hB0
    gi_wp2
    refine ⟨by simp, .inl ⟨_, _, rfl, run_takeDeferred hK, ?_⟩⟩
    refine ⟨.tuple #[.slice po m co, .bool true], ?_, ⟨_, rfl, HF.out, hB.trans (belowK_b (w := w) (Nat.le_refl _) W D _ _ (by omega) hK rfl rfl)⟩⟩
    simp only [results, Try.results34]
    simp [go_sem, hc5]
end Go.Proofs.Ytekoicbjpoeijaa
