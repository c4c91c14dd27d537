/- D8, KR4, KR5, KR6, KR7, KR8, P0, P1, P2: what the theorem needs of these texts. No conditions beyond those that are written. -/
import Derived.Test.YtbekocknfpekoaaJ1
import Derived.Test.YtbekocknfpekoaaJ0
import Derived.BigQuiet
import Derived.DeepKeys
import Derived.LoopN
namespace Go.Proofs.Ytbekocknfpekoaa
set_option linter.unusedVariables false
set_option linter.unusedSimpArgs false
open Go.RowKit
theorem lenD_yes {d : Dm} {l : Int} (h : rightD d = true) (h0 : 0 ≤ l) (h1 : l ≤ depthD d) : lenD d l = max (wid d.kind - l * d.step) 0 := by
  unfold lenD; rw [if_pos ⟨h, h0, h1⟩]
theorem lenD_no {d : Dm} {l : Int} (h : ¬ (rightD d = true ∧ 0 ≤ l ∧ l ≤ depthD d)) : lenD d l = -1 := by
  unfold lenD; rw [if_neg h]
theorem lenD_there {d : Dm} {l : Int} (h : 0 ≤ lenD d l) : rightD d = true ∧ 0 ≤ l ∧ l ≤ depthD d := Classical.byContradiction fun e => by
  rw [lenD_no e] at h; omega
theorem mul_step {l m s : Int} (h : l ≤ m) (hs : 0 ≤ s) : l * s ≤ m * s := Int.mul_le_mul_of_nonneg_right h hs
theorem lenD_mono {d : Dm} {i j : Int} (hi : 0 ≤ lenD d i) (hj : 0 ≤ lenD d j) (h : i ≤ j) : lenD d j ≤ lenD d i := by
  obtain ⟨r, i0, i1⟩ := lenD_there hi
  obtain ⟨_, j0, j1⟩ := lenD_there hj
  obtain ⟨_, s1, s2⟩ := (rightD_iff d).1 r
  rw [lenD_yes r i0 i1, lenD_yes r j0 j1]
  have := mul_step h (show 0 ≤ d.step by omega)
  omega
theorem onD_iff (d : Dm) (l : Int) (k : Ke) : onD d l k = true ↔ 0 ≤ lenD d l ∧ k.kind = d.kind ∧ rightK k = true ∧ (k.len = lenD d l ∨ (d.kind = 3 ∧ k.len < lenD d l)) := by
  have := lenD_range d l
  unfold onD
  simp only [Bool.and_eq_true, Bool.or_eq_true, Bool.not_eq_true', decide_eq_false_iff_not, decide_eq_true_eq]
  constructor
  · rintro ⟨a, b, c, e⟩; exact ⟨by omega, b, c, e⟩
  · rintro ⟨a, b, c, e⟩; exact ⟨by omega, b, c, e⟩
theorem cutD_yes {d : Dm} {l : Int} {k : Ke} (h : 0 ≤ lenD d l) (hk : k.kind = d.kind) : cutD d l k = cutK k (lenD d l) := by
  unfold cutD; rw [if_neg (by rintro (e | e); omega; exact e hk)]
theorem cutD_kind {d : Dm} {l : Int} {k : Ke} (hk : ¬ k.kind = d.kind) : cutD d l k = kz := by unfold cutD; rw [if_pos (.inr hk)]
theorem kind_dim {d : Dm} (h : rightD d = true) : d.kind = 1 ∨ d.kind = 2 ∨ d.kind = 3 := by
  obtain ⟨_, s1, s2⟩ := (rightD_iff d).1 h
  unfold wid at s2
  by_cases a : d.kind = 1
  · exact .inl a
  · by_cases b : d.kind = 2
    · exact .inr (.inl b)
    · by_cases c : d.kind = 3
      · exact .inr (.inr c)
      · rw [if_neg a, if_neg b, if_neg c] at s2; omega
theorem on_cut {d : Dm} {l : Int} {k : Ke} (h : onD d l k = true) : cutD d l k = k ∧ rightK k = true := by
  obtain ⟨a, b, c, e⟩ := (onD_iff d l k).1 h
  refine ⟨?_, c⟩
  rw [cutD_yes a b]
  unfold cutK
  rw [if_pos c, if_pos (by rcases e with e | e <;> omega)]
theorem cutD_cutD {d : Dm} {i j : Int} (k : Ke) (hi : 0 ≤ lenD d i) (hj : 0 ≤ lenD d j) (hij : i ≤ j) : cutD d j (cutD d i k) = cutD d j k := by
  have hd := kind_dim (lenD_there hi).1
  have hm := lenD_mono hi hj hij
  have hz : ¬ kz.kind = d.kind := by unfold kz; dsimp only; omega
  by_cases hk : k.kind = d.kind
  · cases hr : rightK k with
    | false =>
      rw [cutD_yes hi hk, cut_bad hr, cutD_kind hz, cutD_yes hj hk, cut_bad hr]
    | true =>
      have h2 := (cut_right hr (lenD d i)).2.1
      rw [cutD_yes hi hk, cutD_yes hj (h2.trans hk), cut_cut hr, cutD_yes hj hk, show min (lenD d i) (lenD d j) = lenD d j by omega]
  · rw [cutD_kind hk, cutD_kind hz, cutD_kind hk]
theorem cutD_ok {k : Ke} (ok : k.ok) (d : Dm) (l : Int) : (cutD d l k).ok := by
  have := lenD_range d l
  unfold cutD
  split
  · exact kz_ok
  · exact cut_ok ok _ (by omega)
end Go.Proofs.Ytbekocknfpekoaa
namespace Go.Proofs.Ytbekocknfpekoaa
set_option linter.unusedVariables false
set_option linter.unusedSimpArgs false
open Go.RowKit
structure Sp where
  n : Int
  d0 : Dm
  d1 : Dm
  deriving DecidableEq
structure Px where
  a0 : Int
  a1 : Int
  k0 : Ke
  k1 : Ke
  deriving DecidableEq
def sv (s : Sp) : Value := .agg #[.int .i64 s.n, .int .i64 s.d0.kind, .int .i64 s.d0.side, .int .i64 s.d0.step, .int .i64 s.d1.kind, .int .i64 s.d1.side, .int .i64 s.d1.step]
def pv (p : Px) : Value := .agg #[.int .i64 p.a0, .int .i64 p.a1, .int .i64 p.k0.kind, .int .i64 p.k0.len, .int .u64 p.k0.h, .int .u64 p.k0.l, .string ⟨p.k0.path.toArray⟩, .int .i64 p.k1.kind, .int .i64 p.k1.len, .int .u64 p.k1.h, .int .u64 p.k1.l, .string ⟨p.k1.path.toArray⟩]
theorem eqIn_int (d : Nat) (a b : Int) (w : World) : (Op.equalIn (d + 1) 3 (.int .i64 a) (.int .i64 b)).run Try.prog w = .ok (decide (a = b)) w := by
  simp only [Op.equalIn, Sem.run_bind, run_underlying Try.underlying3, Result.andThen_ok]
  simp [go_sem]
  rfl
theorem eqIn_word (d : Nat) (a b : Int) (w : World) : (Op.equalIn (d + 1) 28 (.int .u64 a) (.int .u64 b)).run Try.prog w = .ok (decide (a = b)) w := by
  simp only [Op.equalIn, Sem.run_bind, run_underlying Try.underlying28, Result.andThen_ok]
  simp [go_sem]
  rfl
theorem ba_beq (a b : ByteArray) : (a == b) = decide (a = b) := by rw [Bool.eq_iff_iff, decide_eq_true_eq]; exact MapKept.bytes_beq a b
theorem eqIn_str (d : Nat) (a b : ByteArray) (w : World) : (Op.equalIn (d + 1) 9 (.string a) (.string b)).run Try.prog w = .ok (decide (a = b)) w := by
  simp only [Op.equalIn, Sem.run_bind, run_underlying Try.underlying9, Result.andThen_ok]
  rw [ba_beq]; rfl
/-- two lists of equal-made cells, one by one -/
theorem eqIn_key (d : Nat) (a0 a1 a2 a3 : Int) (a4 : ByteArray) (b0 b1 b2 b3 : Int) (b4 : ByteArray) (w : World) : (Op.equalIn (d + 2) 30 (.agg #[.int .i64 a0, .int .i64 a1, .int .u64 a2, .int .u64 a3, .string a4]) (.agg #[.int .i64 b0, .int .i64 b1, .int .u64 b2, .int .u64 b3, .string b4])).run Try.prog w = .ok (eqK a0 a1 a2 a3 a4 b0 b1 b2 b3 b4) w := by
  have e1 := eqIn_int d
  have e2 := eqIn_word d
  have e3 := eqIn_str d
  rw [show d + 2 = (d + 1) + 1 from rfl, run_equalIn_struct _ _ _ _ _ (by kernel_rfl) (by kernel_rfl), show (Try.prog.fieldsOf 30).toList = _ from by unfold Program.fieldsOf; rw [Try.underlying30]]
  unfold eqK
  simp [go_sem, Op.eqFields, e1, e2, e3]
  by_cases h0 : a0 = b0 <;> by_cases h1 : a1 = b1 <;> by_cases h2 : a2 = b2 <;> by_cases h3 : a3 = b3 <;> by_cases h4 : a4 = b4 <;> simp [go_sem, h0, h1, h2, h3, h4]
theorem eqIn_dim (d : Nat) (x y : Dm) (w : World) : (Op.equalIn (d + 2) 23 (dv x) (dv y)).run Try.prog w = .ok (decide (x = y)) w := by
  have e1 := eqIn_int d
  obtain ⟨a0, a1, a2⟩ := x
  obtain ⟨b0, b1, b2⟩ := y
  unfold dv
  rw [show d + 2 = (d + 1) + 1 from rfl, run_equalIn_struct _ _ _ _ _ (by kernel_rfl) (by kernel_rfl), show (Try.prog.fieldsOf 23).toList = _ from by unfold Program.fieldsOf; rw [Try.underlying23]]
  simp [go_sem, Op.eqFields, e1]
  by_cases h0 : a0 = b0 <;> by_cases h1 : a1 = b1 <;> by_cases h2 : a2 = b2 <;> simp [go_sem, h0, h1, h2]
theorem eqIn_at (d : Nat) (a0 a1 b0 b1 : Int) (w : World) : (Op.equalIn (d + 2) 27 (.agg #[.int .i64 a0, .int .i64 a1]) (.agg #[.int .i64 b0, .int .i64 b1])).run Try.prog w = .ok (decide (a0 = b0 ∧ a1 = b1)) w := by
  have e1 := eqIn_int d
  obtain ⟨i, hi⟩ := info_of_underlying Try.underlying3
  have hc : Try.prog.cellsOf 3 = 1 := by kernel_rfl
  rw [show d + 2 = (d + 1) + 1 from rfl, run_equalIn_array _ _ _ _ Try.underlying27 hi, hc, show List.range 2 = [0, 1] from rfl]
  simp [go_sem, Op.eqItems, e1]
  by_cases h0 : a0 = b0 <;> by_cases h1 : a1 = b1 <;> simp [go_sem, h0, h1]
def keys2 (a b : Ke) : Value := .agg #[.int .i64 a.kind, .int .i64 a.len, .int .u64 a.h, .int .u64 a.l, .string ⟨a.path.toArray⟩, .int .i64 b.kind, .int .i64 b.len, .int .u64 b.h, .int .u64 b.l, .string ⟨b.path.toArray⟩]
theorem eqIn_keys (d : Nat) (a b x y : Ke) (w : World) : (Op.equalIn (d + 3) 31 (keys2 a b) (keys2 x y)).run Try.prog w = .ok (decide (a = x ∧ b = y)) w := by
  have e1 := eqIn_key d
  have e2 := eqK_ke a x
  have e3 := eqK_ke b y
  obtain ⟨i, hi⟩ := info_of_underlying Try.underlying30
  have hc : Try.prog.cellsOf 30 = 5 := by kernel_rfl
  unfold keys2
  rw [show d + 3 = (d + 2) + 1 from rfl, run_equalIn_array _ _ _ _ Try.underlying31 hi, hc, show List.range 2 = [0, 1] from rfl]
  simp [go_sem, Op.eqItems, e1, e2, e3]
  by_cases h0 : a = x <;> by_cases h1 : b = y <;> simp [go_sem, h0, h1]
theorem px_ext {p q : Px} (h0 : p.a0 = q.a0) (h1 : p.a1 = q.a1) (h2 : p.k0 = q.k0) (h3 : p.k1 = q.k1) : p = q := by cases p; cases q; simp_all
theorem px_iff (p q : Px) : p = q ↔ (p.a0 = q.a0 ∧ p.a1 = q.a1) ∧ p.k0 = q.k0 ∧ p.k1 = q.k1 := ⟨by rintro rfl; simp, fun ⟨⟨h0, h1⟩, h2, h3⟩ => px_ext h0 h1 h2 h3⟩
theorem eqIn_px (d : Nat) (p q : Px) (w : World) : (Op.equalIn (d + 4) 33 (pv p) (pv q)).run Try.prog w = .ok (decide (p = q)) w := by
  have e1 := eqIn_at (d + 1)
  have e2 := eqIn_keys d p.k0 p.k1 q.k0 q.k1
  have e3 := px_iff p q
  unfold pv
  unfold keys2 at e2
  rw [show d + 4 = (d + 3) + 1 from rfl, run_equalIn_struct _ _ _ _ _ (by kernel_rfl) (by kernel_rfl), show (Try.prog.fieldsOf 33).toList = _ from by unfold Program.fieldsOf; rw [Try.underlying33]]
  rw [show decide (p = q) = (decide (p.a0 = q.a0 ∧ p.a1 = q.a1) && decide (p.k0 = q.k0 ∧ p.k1 = q.k1)) from by rw [Bool.eq_iff_iff]; simp only [Bool.and_eq_true, decide_eq_true_eq]; exact e3]
  simp [go_sem, Op.eqFields, e1, e2]
  by_cases h0 : p.a0 = q.a0 <;> by_cases h1 : p.a1 = q.a1 <;> by_cases h2 : p.k0 = q.k0 <;> by_cases h3 : p.k1 = q.k1 <;> simp [go_sem, h0, h1, h2, h3]
theorem eql_px (p q : Px) (w : World) : (binOp .eql 33 (pv p) (pv q)).run Try.prog w = .ok (.bool (decide (p = q))) w := by
  have e := eqIn_px 9996 p q
  unfold pv at *
  simp [go_sem, e]
theorem neq_px (p q : Px) (w : World) : (binOp .neq 33 (pv p) (pv q)).run Try.prog w = .ok (.bool (!decide (p = q))) w := by
  have e := eqIn_px 9996 p q
  unfold pv at *
  simp [go_sem, e]
theorem neq_dim (p q : Dm) (w : World) : (binOp .neq 23 (dv p) (dv q)).run Try.prog w = .ok (.bool (!decide (p = q))) w := by
  have e := eqIn_dim 9998 p q
  unfold dv at *
  simp [go_sem, e]
theorem four_rows (w : World) (a0 a1 a2 a3 : Array Value) (t0 t1 t2 t3 : TypeId) : Row ((((w.alloc (.cells a0 t0)).alloc (.cells a1 t1)).alloc (.cells a2 t2)).alloc (.cells a3 t3)) (w.heap.size) a0 t0 ∧ Row ((((w.alloc (.cells a0 t0)).alloc (.cells a1 t1)).alloc (.cells a2 t2)).alloc (.cells a3 t3)) (w.heap.size + 1) a1 t1 ∧ Row ((((w.alloc (.cells a0 t0)).alloc (.cells a1 t1)).alloc (.cells a2 t2)).alloc (.cells a3 t3)) (w.heap.size + 1 + 1) a2 t2 ∧ Row ((((w.alloc (.cells a0 t0)).alloc (.cells a1 t1)).alloc (.cells a2 t2)).alloc (.cells a3 t3)) (w.heap.size + 1 + 1 + 1) a3 t3 ∧ Below w.heap.size w ((((w.alloc (.cells a0 t0)).alloc (.cells a1 t1)).alloc (.cells a2 t2)).alloc (.cells a3 t3)) := by
  obtain ⟨h0, h1, h2, hb⟩ := three_rows w a0 a1 a2 t0 t1 t2
  refine ⟨h0.alloc _, h1.alloc _, h2.alloc _, ?_, hb.alloc hb.size _⟩
  have := Row.new (((w.alloc (.cells a0 t0)).alloc (.cells a1 t1)).alloc (.cells a2 t2)) a3 t3
  rwa [World.size_alloc, World.size_alloc, World.size_alloc] at this
theorem set12 {w : World} {g : Nat} {cs : Array Value} {t : TypeId} (h : Row w g cs t) (hs : cs.size = 12) (v0 v1 v2 v3 v4 v5 v6 v7 v8 v9 v10 v11 : Value) : Row ((((((((((((w.setCell ⟨g, 0, none⟩ v0).setCell ⟨g, 1, none⟩ v1).setCell ⟨g, 2, none⟩ v2).setCell ⟨g, 3, none⟩ v3).setCell ⟨g, 4, none⟩ v4).setCell ⟨g, 5, none⟩ v5).setCell ⟨g, 6, none⟩ v6).setCell ⟨g, 7, none⟩ v7).setCell ⟨g, 8, none⟩ v8).setCell ⟨g, 9, none⟩ v9).setCell ⟨g, 10, none⟩ v10).setCell ⟨g, 11, none⟩ v11) g #[v0, v1, v2, v3, v4, v5, v6, v7, v8, v9, v10, v11] t := by
  have r := Row.setCells [v0, v1, v2, v3, v4, v5, v6, v7, v8, v9, v10, v11] 0 h
  have e := setL_all cs #[v0, v1, v2, v3, v4, v5, v6, v7, v8, v9, v10, v11] (by simp [hs])
  rw [show (#[v0, v1, v2, v3, v4, v5, v6, v7, v8, v9, v10, v11] : Array Value).toList = [v0, v1, v2, v3, v4, v5, v6, v7, v8, v9, v10, v11] from rfl] at e
  rw [e] at r
  exact r
theorem bset12 {w w1 : World} {g : Nat} (hb : Below w.heap.size w w1) (hg : w.heap.size ≤ g) (v0 v1 v2 v3 v4 v5 v6 v7 v8 v9 v10 v11 : Value) : Below w.heap.size w ((((((((((((w1.setCell ⟨g, 0, none⟩ v0).setCell ⟨g, 1, none⟩ v1).setCell ⟨g, 2, none⟩ v2).setCell ⟨g, 3, none⟩ v3).setCell ⟨g, 4, none⟩ v4).setCell ⟨g, 5, none⟩ v5).setCell ⟨g, 6, none⟩ v6).setCell ⟨g, 7, none⟩ v7).setCell ⟨g, 8, none⟩ v8).setCell ⟨g, 9, none⟩ v9).setCell ⟨g, 10, none⟩ v10).setCell ⟨g, 11, none⟩ v11) :=
  below_setCells hg [v0, v1, v2, v3, v4, v5, v6, v7, v8, v9, v10, v11] 0 w1 hb
theorem pcell_far {w : World} {g o : Nat} {vs : List Value} {a : Addr} {v : Value} (h : w.cell? a = some v) (hne : a.block ≠ g) : (w.setCells g o vs).cell? a = some v := by
  rw [World.cell?_setCells_out g vs o w a (fun e => absurd e hne)]; exact h
theorem prow_far {w : World} {g k o : Nat} {vs : List Value} {cs : Array Value} {t : TypeId} (h : Row w k cs t) (hne : k ≠ g) : Row (w.setCells g o vs) k cs t := (setCells_other hne vs o w).trans h
theorem Row.setMany {w : World} {g : Nat} {cs ds : Array Value} {t : TypeId} (h : Row w g cs t) (o : Nat) (vs : List Value) (e : setL cs o vs = ds) : Row (w.setCells g o vs) g ds t := e ▸ Row.setCells vs o h
theorem pexec_load {P : Program} {o : Oper} {a : Act} {w : World} (ty : TypeId) (x : Operand) (ho : o.op = .load ty x) (g : Nat) (hx : a.eval x = .pointer (some ⟨g, 0, none⟩)) (t : TypeId) (cs : Array Value) (d : TypeDesc) (hg : Row w g cs t)
    (hu : P.underlying ty = some d) (hd : (match d with | .struct _ | .array _ _ => true | _ => false) = true) (hi : (P.info? ty).map (·.size) = some cs.size) : (execOp a.eval o).run P w = .ok (.value (.agg cs)) w := by
  unfold execOp
  simp only [ho, hx, Instr.loadAt, Instr.sureAddr, Sem.run_bind, Sem.run_pure, Result.andThen_ok, run_loadVar_row w g t ty cs (0, 0) d hg hu hd hi]
theorem Row.thereAt {w : World} {g : Nat} {cs : Array Value} {t : TypeId} (h : Row w g cs t) (o n : Nat) (hn : o + n ≤ cs.size) : w.there g o n := fun j hj => by
  rw [h.cell (o + j), h.frozen (o + j), Array.getElem?_eq_getElem (by omega)]
  exact ⟨rfl, rfl⟩
theorem infoPx : (Try.prog.info? 33).map (·.size) = some 12 := by kernel_rfl
theorem infoSp : (Try.prog.info? 26).map (·.size) = some 7 := by kernel_rfl
theorem prf {w w' : World} {g k o : Nat} {vs : List Value} {cs : Array Value} {t : TypeId} (hw : w' = w.setCells g o vs) (h : Row w k cs t) (hne : k ≠ g := by first | omega | (simp; done) | (simp; omega) | omega) : Row w' k cs t := hw ▸ prow_far h hne
theorem psm {w w' : World} {g o : Nat} {vs : List Value} {cs ds : Array Value} {t : TypeId} (hw : w' = w.setCells g o vs) (h : Row w g cs t) (e : setL cs o vs = ds) : Row w' g ds t := hw ▸ Row.setMany h o vs e
theorem pbl {B g o : Nat} {a w w' : World} {vs : List Value} (hw : w' = w.setCells g o vs) (h : Below B a w) (hg : B ≤ g := by omega) : Below B a w' := hw ▸ below_setCells hg vs o w h
/-- a store of a whole struct -/
theorem pst {P : Program} {op : Oper} {a : Act} {w : World} {K : Act → World → Prop} {Q : Exit → Act → World → Prop} (ty : TypeId) (x y : Operand) (ho : op.op = .store ty x y)
    (b o : Nat) (cells : Array Value) (hx : a.eval x = .pointer (some ⟨b, o, none⟩)) (hy : a.eval y = .agg cells)
    (ht : w.there b o cells.size) (hi : (P.info? ty).map (·.size) = some cells.size) (h1 : cells.all (·.oneCell') = true)
    (h : ∀ w', w' = w.setCells b o cells.toList → K (a.put op.dst undef) w') : op.wp P a w K Q := wp_store_mid ty x y ho b o cells hx hy ht hi h1 (h _ rfl)
theorem psw {w w' : World} {g : Nat} {cells cs : Array Value} {t : TypeId} (hw : w' = w.setCells g 0 cells.toList) (h : Row w g cs t) (e : setL cs 0 cells.toList = cells := by simp [setL]) : Row w' g cells t := hw ▸ Row.setMany h 0 _ e
end Go.Proofs.Ytbekocknfpekoaa
namespace Go.Proofs.Ytbekocknfpekoaa
set_option linter.unusedVariables false
set_option linter.unusedSimpArgs false
open Go.RowKit
def dz : Dm := ⟨0, 0, 0⟩
def pz : Px := ⟨0, 0, kz, kz⟩
def soundS (s : Sp) : Bool := if s.n = 1 then rightD s.d0 && decide (s.d1 = dz) else decide (s.n = 2) && (rightD s.d0 && rightD s.d1)
def rightP (s : Sp) (p : Px) : Bool := soundS s && (onD s.d0 p.a0 p.k0 && (if s.n = 1 then decide (p.a1 = 0) && decide (p.k1 = kz) else onD s.d1 p.a1 p.k1))
set_option maxRecDepth 100000 in
set_option maxHeartbeats 4000000 in
theorem on0_t (s : Sp) (l : Int) (k : Ke) (ok : k.ok) (hn : 1 ≤ s.n) (w : World) : Calls Try.prog 53 #[sv s, .int .i64 0, .int .i64 l, kv k] w fun e w' => e = .returned (.bool (onD s.d0 l k)) ∧ Below w.heap.size w w' := by
  have HO := don_t s.d0 l k ok
  generalize onD s.d0 l k = r at *
  unfold sv kv dv at *
  obtain ⟨RR0, RR1, hb0⟩ := two_rows w #[.int .i64 s.n, .int .i64 s.d0.kind, .int .i64 s.d0.side, .int .i64 s.d0.step, .int .i64 s.d1.kind, .int .i64 s.d1.side, .int .i64 s.d1.step] #[.int .i64 k.kind, .int .i64 k.len, .int .u64 k.h, .int .u64 k.l, .string ⟨k.path.toArray⟩] 26 30
  have c0 := (RR0.cell 0).trans (show _ = some (Value.int .i64 s.n) from rfl)
  have c1 := (RR0.cell 1).trans (show _ = some (Value.int .i64 s.d0.kind) from rfl)
  have c2 := (RR0.cell 2).trans (show _ = some (Value.int .i64 s.d0.side) from rfl)
  have c3 := (RR0.cell 3).trans (show _ = some (Value.int .i64 s.d0.step) from rfl)
  have c4 := (RR0.cell 4).trans (show _ = some (Value.int .i64 s.d1.kind) from rfl)
  have c5 := (RR0.cell 5).trans (show _ = some (Value.int .i64 s.d1.side) from rfl)
  have c6 := (RR0.cell 6).trans (show _ = some (Value.int .i64 s.d1.step) from rfl)
  have d0 := (RR1.cell 0).trans (show _ = some (Value.int .i64 k.kind) from rfl)
  have d1 := (RR1.cell 1).trans (show _ = some (Value.int .i64 k.len) from rfl)
  have d2 := (RR1.cell 2).trans (show _ = some (Value.int .u64 k.h) from rfl)
  have d3 := (RR1.cell 3).trans (show _ = some (Value.int .u64 k.l) from rfl)
  have d4 := (RR1.cell 4).trans (show _ = some (Value.string ⟨k.path.toArray⟩) from rfl)
  clear RR0 RR1
  go_enter Try.func53, Try.ntmps53
  go_wp2_with fail
  refine wp_region_held_drew (S := (fun w' => w'.cell? ⟨w.heap.size, 0, none⟩ = some (.int .i64 s.n) ∧ w'.cell? ⟨w.heap.size, 1, none⟩ = some (.int .i64 s.d0.kind) ∧ w'.cell? ⟨w.heap.size, 2, none⟩ = some (.int .i64 s.d0.side) ∧ w'.cell? ⟨w.heap.size, 3, none⟩ = some (.int .i64 s.d0.step) ∧ w'.cell? ⟨w.heap.size, 4, none⟩ = some (.int .i64 s.d1.kind) ∧ w'.cell? ⟨w.heap.size, 5, none⟩ = some (.int .i64 s.d1.side) ∧ w'.cell? ⟨w.heap.size, 6, none⟩ = some (.int .i64 s.d1.step) ∧ w'.cell? ⟨w.heap.size + 1, 0, none⟩ = some (.int .i64 k.kind) ∧ w'.cell? ⟨w.heap.size + 1, 1, none⟩ = some (.int .i64 k.len) ∧ w'.cell? ⟨w.heap.size + 1, 2, none⟩ = some (.int .u64 k.h) ∧ w'.cell? ⟨w.heap.size + 1, 3, none⟩ = some (.int .u64 k.l) ∧ w'.cell? ⟨w.heap.size + 1, 4, none⟩ = some (.string ⟨k.path.toArray⟩) ∧ Below w.heap.size w w')) (by kernel_rfl) ?hSr25_ (fun hHeld => ?_)
  case hSr25_ => (first | exact ⟨c0, c1, c2, c3, c4, c5, c6, d0, d1, d2, d3, d4, hb0.drew⟩ | exact ⟨c0, c1, c2, c3, c4, c5, c6, d0, d1, d2, d3, d4, hb0⟩ | (obtain ⟨c0, c1, c2, c3, c4, c5, c6, d0, d1, d2, d3, d4, hb0⟩ := hHeld; exact ⟨cell_later hb c0, cell_later hb c1, cell_later hb c2, cell_later hb c3, cell_later hb c4, cell_later hb c5, cell_later hb c6, cell_later hb d0, cell_later hb d1, cell_later hb d2, cell_later hb d3, cell_later hb d4, below_step hb0 hb⟩))
  refine tk 0 ⟨some 20, .move (.tmp 1), 3, _, _, _⟩ hHeld ?_
  (try simp only [Act.put, nz1, nz2, nz3])
  refine tk 1 ⟨some 21, .fieldAddr 26 (.tmp 4) 1, 0, _, _, _⟩ hHeld ?_
  (try simp only [Act.put, nz1, nz2, nz3])
  refine tk 2 ⟨some 22, .indexAddr 24 (.tmp 21) (.tmp 20), 0, _, _, _⟩ hHeld ?_
  (try simp only [Act.put, nz1, nz2, nz3])
  refine tk 3 ⟨some 23, .load 23 (.tmp 22), 23, _, _, _⟩ hHeld ?_
  (try simp only [Act.put, nz1, nz2, nz3])
  refine tk 4 ⟨some 24, .move (.tmp 2), 3, _, _, _⟩ hHeld ?_
  (try simp only [Act.put, nz1, nz2, nz3])
  refine tk 5 ⟨some 25, .load 30 (.tmp 7), 30, _, _, _⟩ hHeld ?_
  (try simp only [Act.put, nz1, nz2, nz3])
  refine wpAnyH_ready (rs := [6]) (by kernel_rfl) (by simp) ?_
  refine AllReadyH.cons (o := ⟨some 26, .call { callee := .value (.func 78), args := #[.tmp 23, .tmp 24, .tmp 25], argTypes := #[23, 3, 30] }, 4, _, _, _⟩) rfl (fun K hK => ?_) AllReadyH.nil
  (go_simp; (refine (HO _).mono ?_); (rintro e wn ⟨rfl, hb⟩); go_wp2_with fail)
  refine hK.out _ _ ?hSr25_7_6 (fun hHeld2 => ?_)
  case hSr25_7_6 => (first | exact ⟨c0, c1, c2, c3, c4, c5, c6, d0, d1, d2, d3, d4, hb0.drew⟩ | exact ⟨c0, c1, c2, c3, c4, c5, c6, d0, d1, d2, d3, d4, hb0⟩ | (obtain ⟨c0, c1, c2, c3, c4, c5, c6, d0, d1, d2, d3, d4, hb0⟩ := hHeld; exact ⟨cell_later hb c0, cell_later hb c1, cell_later hb c2, cell_later hb c3, cell_later hb c4, cell_later hb c5, cell_later hb c6, cell_later hb d0, cell_later hb d1, cell_later hb d2, cell_later hb d3, cell_later hb d4, below_step hb0 hb⟩))
  clear hK K hHeld
  have hHeld := hHeld2
  clear hHeld2
  (try simp only [Act.put, nz1, nz2, nz3])
  refine tk 7 ⟨some 8, .assign (.tmp 26), 4, _, _, _⟩ hHeld ?_
  (try simp only [Act.put, nz1, nz2, nz3])
  refine wpAnyH_done (by kernel_rfl) ?_ _
  clear c0 c1 c2 c3 c4 c5 c6 d0 d1 d2 d3 d4 hb0
  obtain ⟨c0, c1, c2, c3, c4, c5, c6, d0, d1, d2, d3, d4, hb0⟩ := hHeld
  go_wp2
  go_ret
  exact ⟨rfl, hb0⟩
set_option maxRecDepth 100000 in
set_option maxHeartbeats 4000000 in
theorem on2_t (s : Sp) (l : Int) (k : Ke) (ok : k.ok) (hn : 2 ≤ s.n) (w : World) : Calls Try.prog 53 #[sv s, .int .i64 1, .int .i64 l, kv k] w fun e w' => e = .returned (.bool (onD s.d1 l k)) ∧ Below w.heap.size w w' := by
  have HO := don_t s.d1 l k ok
  generalize onD s.d1 l k = r at *
  unfold sv kv dv at *
  obtain ⟨RR0, RR1, hb0⟩ := two_rows w #[.int .i64 s.n, .int .i64 s.d0.kind, .int .i64 s.d0.side, .int .i64 s.d0.step, .int .i64 s.d1.kind, .int .i64 s.d1.side, .int .i64 s.d1.step] #[.int .i64 k.kind, .int .i64 k.len, .int .u64 k.h, .int .u64 k.l, .string ⟨k.path.toArray⟩] 26 30
  have c0 := (RR0.cell 0).trans (show _ = some (Value.int .i64 s.n) from rfl)
  have c1 := (RR0.cell 1).trans (show _ = some (Value.int .i64 s.d0.kind) from rfl)
  have c2 := (RR0.cell 2).trans (show _ = some (Value.int .i64 s.d0.side) from rfl)
  have c3 := (RR0.cell 3).trans (show _ = some (Value.int .i64 s.d0.step) from rfl)
  have c4 := (RR0.cell 4).trans (show _ = some (Value.int .i64 s.d1.kind) from rfl)
  have c5 := (RR0.cell 5).trans (show _ = some (Value.int .i64 s.d1.side) from rfl)
  have c6 := (RR0.cell 6).trans (show _ = some (Value.int .i64 s.d1.step) from rfl)
  have d0 := (RR1.cell 0).trans (show _ = some (Value.int .i64 k.kind) from rfl)
  have d1 := (RR1.cell 1).trans (show _ = some (Value.int .i64 k.len) from rfl)
  have d2 := (RR1.cell 2).trans (show _ = some (Value.int .u64 k.h) from rfl)
  have d3 := (RR1.cell 3).trans (show _ = some (Value.int .u64 k.l) from rfl)
  have d4 := (RR1.cell 4).trans (show _ = some (Value.string ⟨k.path.toArray⟩) from rfl)
  clear RR0 RR1
  go_enter Try.func53, Try.ntmps53
  go_wp2_with fail
  refine wp_region_held_drew (S := (fun w' => w'.cell? ⟨w.heap.size, 0, none⟩ = some (.int .i64 s.n) ∧ w'.cell? ⟨w.heap.size, 1, none⟩ = some (.int .i64 s.d0.kind) ∧ w'.cell? ⟨w.heap.size, 2, none⟩ = some (.int .i64 s.d0.side) ∧ w'.cell? ⟨w.heap.size, 3, none⟩ = some (.int .i64 s.d0.step) ∧ w'.cell? ⟨w.heap.size, 4, none⟩ = some (.int .i64 s.d1.kind) ∧ w'.cell? ⟨w.heap.size, 5, none⟩ = some (.int .i64 s.d1.side) ∧ w'.cell? ⟨w.heap.size, 6, none⟩ = some (.int .i64 s.d1.step) ∧ w'.cell? ⟨w.heap.size + 1, 0, none⟩ = some (.int .i64 k.kind) ∧ w'.cell? ⟨w.heap.size + 1, 1, none⟩ = some (.int .i64 k.len) ∧ w'.cell? ⟨w.heap.size + 1, 2, none⟩ = some (.int .u64 k.h) ∧ w'.cell? ⟨w.heap.size + 1, 3, none⟩ = some (.int .u64 k.l) ∧ w'.cell? ⟨w.heap.size + 1, 4, none⟩ = some (.string ⟨k.path.toArray⟩) ∧ Below w.heap.size w w')) (by kernel_rfl) ?hSr26_ (fun hHeld => ?_)
  case hSr26_ => (first | exact ⟨c0, c1, c2, c3, c4, c5, c6, d0, d1, d2, d3, d4, hb0.drew⟩ | exact ⟨c0, c1, c2, c3, c4, c5, c6, d0, d1, d2, d3, d4, hb0⟩ | (obtain ⟨c0, c1, c2, c3, c4, c5, c6, d0, d1, d2, d3, d4, hb0⟩ := hHeld; exact ⟨cell_later hb c0, cell_later hb c1, cell_later hb c2, cell_later hb c3, cell_later hb c4, cell_later hb c5, cell_later hb c6, cell_later hb d0, cell_later hb d1, cell_later hb d2, cell_later hb d3, cell_later hb d4, below_step hb0 hb⟩))
  refine tk 0 ⟨some 20, .move (.tmp 1), 3, _, _, _⟩ hHeld ?_
  (try simp only [Act.put, nz1, nz2, nz3])
  refine tk 1 ⟨some 21, .fieldAddr 26 (.tmp 4) 1, 0, _, _, _⟩ hHeld ?_
  (try simp only [Act.put, nz1, nz2, nz3])
  refine tk 2 ⟨some 22, .indexAddr 24 (.tmp 21) (.tmp 20), 0, _, _, _⟩ hHeld ?_
  (try simp only [Act.put, nz1, nz2, nz3])
  refine tk 3 ⟨some 23, .load 23 (.tmp 22), 23, _, _, _⟩ hHeld ?_
  (try simp only [Act.put, nz1, nz2, nz3])
  refine tk 4 ⟨some 24, .move (.tmp 2), 3, _, _, _⟩ hHeld ?_
  (try simp only [Act.put, nz1, nz2, nz3])
  refine tk 5 ⟨some 25, .load 30 (.tmp 7), 30, _, _, _⟩ hHeld ?_
  (try simp only [Act.put, nz1, nz2, nz3])
  refine wpAnyH_ready (rs := [6]) (by kernel_rfl) (by simp) ?_
  refine AllReadyH.cons (o := ⟨some 26, .call { callee := .value (.func 78), args := #[.tmp 23, .tmp 24, .tmp 25], argTypes := #[23, 3, 30] }, 4, _, _, _⟩) rfl (fun K hK => ?_) AllReadyH.nil
  (go_simp; (refine (HO _).mono ?_); (rintro e wn ⟨rfl, hb⟩); go_wp2_with fail)
  refine hK.out _ _ ?hSr26_7_6 (fun hHeld2 => ?_)
  case hSr26_7_6 => (first | exact ⟨c0, c1, c2, c3, c4, c5, c6, d0, d1, d2, d3, d4, hb0.drew⟩ | exact ⟨c0, c1, c2, c3, c4, c5, c6, d0, d1, d2, d3, d4, hb0⟩ | (obtain ⟨c0, c1, c2, c3, c4, c5, c6, d0, d1, d2, d3, d4, hb0⟩ := hHeld; exact ⟨cell_later hb c0, cell_later hb c1, cell_later hb c2, cell_later hb c3, cell_later hb c4, cell_later hb c5, cell_later hb c6, cell_later hb d0, cell_later hb d1, cell_later hb d2, cell_later hb d3, cell_later hb d4, below_step hb0 hb⟩))
  clear hK K hHeld
  have hHeld := hHeld2
  clear hHeld2
  (try simp only [Act.put, nz1, nz2, nz3])
  refine tk 7 ⟨some 8, .assign (.tmp 26), 4, _, _, _⟩ hHeld ?_
  (try simp only [Act.put, nz1, nz2, nz3])
  refine wpAnyH_done (by kernel_rfl) ?_ _
  clear c0 c1 c2 c3 c4 c5 c6 d0 d1 d2 d3 d4 hb0
  obtain ⟨c0, c1, c2, c3, c4, c5, c6, d0, d1, d2, d3, d4, hb0⟩ := hHeld
  go_wp2
  go_ret
  exact ⟨rfl, hb0⟩
theorem kz_eqK (k : Ke) : eqK k.kind k.len k.h k.l ⟨k.path.toArray⟩ 0 0 0 0 ⟨#[]⟩ = decide (k = kz) := eqK_ke k kz
set_option maxRecDepth 100000 in
set_option maxHeartbeats 4000000 in
theorem on1_t (s : Sp) (l : Int) (k : Ke) (hn : s.n = 1) (w : World) : Calls Try.prog 53 #[sv s, .int .i64 1, .int .i64 l, kv k] w fun e w' => e = .returned (.bool (decide (l = 0) && decide (k = kz))) ∧ Below w.heap.size w w' := by
  have q := eql_key
  have HE := kz_eqK k
  obtain ⟨n, e0, e1⟩ := s
  dsimp only at hn
  subst hn
  unfold sv kv
  dsimp only
  obtain ⟨RR0, RR1, hb0⟩ := two_rows w #[.int .i64 1, .int .i64 e0.kind, .int .i64 e0.side, .int .i64 e0.step, .int .i64 e1.kind, .int .i64 e1.side, .int .i64 e1.step] #[.int .i64 k.kind, .int .i64 k.len, .int .u64 k.h, .int .u64 k.l, .string ⟨k.path.toArray⟩] 26 30
  have c0 := (RR0.cell 0).trans (show _ = some (Value.int .i64 1) from rfl)
  have c1 := (RR0.cell 1).trans (show _ = some (Value.int .i64 e0.kind) from rfl)
  have c2 := (RR0.cell 2).trans (show _ = some (Value.int .i64 e0.side) from rfl)
  have c3 := (RR0.cell 3).trans (show _ = some (Value.int .i64 e0.step) from rfl)
  have c4 := (RR0.cell 4).trans (show _ = some (Value.int .i64 e1.kind) from rfl)
  have c5 := (RR0.cell 5).trans (show _ = some (Value.int .i64 e1.side) from rfl)
  have c6 := (RR0.cell 6).trans (show _ = some (Value.int .i64 e1.step) from rfl)
  have d0 := (RR1.cell 0).trans (show _ = some (Value.int .i64 k.kind) from rfl)
  have d1 := (RR1.cell 1).trans (show _ = some (Value.int .i64 k.len) from rfl)
  have d2 := (RR1.cell 2).trans (show _ = some (Value.int .u64 k.h) from rfl)
  have d3 := (RR1.cell 3).trans (show _ = some (Value.int .u64 k.l) from rfl)
  have d4 := (RR1.cell 4).trans (show _ = some (Value.string ⟨k.path.toArray⟩) from rfl)
  clear RR0 RR1
  generalize decide (k = kz) = b at *
  by_cases h : l = 0
  · subst h
    go_enter Try.func53, Try.ntmps53
    go_wp2
    go_ret
    exact ⟨by simp [HE], hb0⟩
  · have h' : (l == 0) = false := by simpa using h
    rw [decide_eq_false h]
    go_enter Try.func53, Try.ntmps53
    go_wp2
    go_ret
    exact ⟨rfl, hb0⟩
end Go.Proofs.Ytbekocknfpekoaa
namespace Go.Proofs.Ytbekocknfpekoaa
set_option linter.unusedVariables false
set_option linter.unusedSimpArgs false
open Go.RowKit
theorem dz_neq (d : Dm) (w : World) : (binOp .neq 23 (.agg #[.int .i64 d.kind, .int .i64 d.side, .int .i64 d.step]) (.agg #[.int .i64 0, .int .i64 0, .int .i64 0])).run Try.prog w = .ok (.bool (!decide (d = dz))) w := neq_dim d dz w
theorem ixd0 (a b c d e f : Value) (w : World) : (Instr.index 24 (.agg #[a, b, c, d, e, f]) (.int .i64 0)).run Try.prog w = .ok (.agg #[a, b, c]) w := by kernel_rfl
theorem ixd1 (a b c d e f : Value) (w : World) : (Instr.index 24 (.agg #[a, b, c, d, e, f]) (.int .i64 1)).run Try.prog w = .ok (.agg #[d, e, f]) w := by kernel_rfl
set_option maxRecDepth 100000 in
set_option maxHeartbeats 4000000 in
theorem sound_low (s : Sp) (hn : s.n ≤ 0) (w : World) : Calls Try.prog 18 #[sv s] w fun e w' => e = .returned (.bool false) ∧ Below w.heap.size w w' := by
  obtain ⟨n, d0, d1⟩ := s
  dsimp only at hn
  have q0 := dz_neq d0
  have q1 := dz_neq d1
  have i0 := ixd0
  have i1 := ixd1
  generalize decide (d0 = dz) = z0 at *
  generalize decide (d1 = dz) = z1 at *
  unfold sv
  dsimp only
  obtain ⟨RR0, hb0⟩ := one_row w #[.int .i64 n, .int .i64 d0.kind, .int .i64 d0.side, .int .i64 d0.step, .int .i64 d1.kind, .int .i64 d1.side, .int .i64 d1.step] 26
  have c0 := (RR0.cell 0).trans (show _ = some (Value.int .i64 n) from rfl)
  have c1 := (RR0.cell 1).trans (show _ = some (Value.int .i64 d0.kind) from rfl)
  have c2 := (RR0.cell 2).trans (show _ = some (Value.int .i64 d0.side) from rfl)
  have c3 := (RR0.cell 3).trans (show _ = some (Value.int .i64 d0.step) from rfl)
  have c4 := (RR0.cell 4).trans (show _ = some (Value.int .i64 d1.kind) from rfl)
  have c5 := (RR0.cell 5).trans (show _ = some (Value.int .i64 d1.side) from rfl)
  have c6 := (RR0.cell 6).trans (show _ = some (Value.int .i64 d1.step) from rfl)
  clear RR0
  have n1 : (n == 1) = false := by simp; omega
  have n2 : (n == 2) = false := by simp; omega
  cases z0 with
  | false =>
    go_enter Try.func18, Try.ntmps18
    go_wp2_with fail
    refine wp_loop_rounds 3 ?_
    rw [rounds_succ]
    go_wp2
    go_ret
    exact ⟨rfl, (by repeat (first | exact Below.refl _ _ | assumption | (with_reducible refine Below.setCell ?_ ?h _; case h => first | omega | (simp; done) | (simp; omega)) | (with_reducible refine Below.alloc ?_ ?h _; case h => first | omega | (simp; done) | (simp; omega)) | (with_reducible refine Below.drew ?_) | (with_reducible refine Below.trans ?_ (hb4.mono ?h); case h => first | omega | (simp; done) | (simp; omega)) | (with_reducible refine Below.trans ?_ (hb3.mono ?h); case h => first | omega | (simp; done) | (simp; omega)) | (with_reducible refine Below.trans ?_ (hb2.mono ?h); case h => first | omega | (simp; done) | (simp; omega)) | (with_reducible refine Below.trans ?_ (hb.mono ?h); case h => first | omega | (simp; done) | (simp; omega)) | (with_reducible refine Below.trans ?_ (hb0.mono ?h); case h => first | omega | (simp; done) | (simp; omega))))⟩
  | true =>
    cases z1 with
    | false =>
      go_enter Try.func18, Try.ntmps18
      go_wp2_with fail
      refine wp_loop_rounds 3 ?_
      rw [rounds_succ]
      go_wp2
      rw [rounds_succ]
      go_wp2
      go_ret
      exact ⟨rfl, (by repeat (first | exact Below.refl _ _ | assumption | (with_reducible refine Below.setCell ?_ ?h _; case h => first | omega | (simp; done) | (simp; omega)) | (with_reducible refine Below.alloc ?_ ?h _; case h => first | omega | (simp; done) | (simp; omega)) | (with_reducible refine Below.drew ?_) | (with_reducible refine Below.trans ?_ (hb4.mono ?h); case h => first | omega | (simp; done) | (simp; omega)) | (with_reducible refine Below.trans ?_ (hb3.mono ?h); case h => first | omega | (simp; done) | (simp; omega)) | (with_reducible refine Below.trans ?_ (hb2.mono ?h); case h => first | omega | (simp; done) | (simp; omega)) | (with_reducible refine Below.trans ?_ (hb.mono ?h); case h => first | omega | (simp; done) | (simp; omega)) | (with_reducible refine Below.trans ?_ (hb0.mono ?h); case h => first | omega | (simp; done) | (simp; omega))))⟩
    | true =>
      go_enter Try.func18, Try.ntmps18
      go_wp2_with fail
      refine wp_loop_rounds 3 ?_
      rw [rounds_succ]
      go_wp2
      rw [rounds_succ]
      go_wp2
      rw [rounds_succ]
      go_wp2
      go_ret
      exact ⟨rfl, (by repeat (first | exact Below.refl _ _ | assumption | (with_reducible refine Below.setCell ?_ ?h _; case h => first | omega | (simp; done) | (simp; omega)) | (with_reducible refine Below.alloc ?_ ?h _; case h => first | omega | (simp; done) | (simp; omega)) | (with_reducible refine Below.drew ?_) | (with_reducible refine Below.trans ?_ (hb4.mono ?h); case h => first | omega | (simp; done) | (simp; omega)) | (with_reducible refine Below.trans ?_ (hb3.mono ?h); case h => first | omega | (simp; done) | (simp; omega)) | (with_reducible refine Below.trans ?_ (hb2.mono ?h); case h => first | omega | (simp; done) | (simp; omega)) | (with_reducible refine Below.trans ?_ (hb.mono ?h); case h => first | omega | (simp; done) | (simp; omega)) | (with_reducible refine Below.trans ?_ (hb0.mono ?h); case h => first | omega | (simp; done) | (simp; omega))))⟩
set_option maxRecDepth 100000 in
set_option maxHeartbeats 4000000 in
theorem sound_bad0 (s : Sp) (hn : 1 ≤ s.n) (hr : rightD s.d0 = false) (w : World) : Calls Try.prog 18 #[sv s] w fun e w' => e = .returned (.bool false) ∧ Below w.heap.size w w' := by
  obtain ⟨n, d0, d1⟩ := s
  dsimp only at hn hr
  have i0 := ixd0
  have HR := dright_t d0
  rw [hr] at HR
  unfold sv
  unfold dv at HR
  dsimp only
  obtain ⟨RR0, hb0⟩ := one_row w #[.int .i64 n, .int .i64 d0.kind, .int .i64 d0.side, .int .i64 d0.step, .int .i64 d1.kind, .int .i64 d1.side, .int .i64 d1.step] 26
  have c0 := (RR0.cell 0).trans (show _ = some (Value.int .i64 n) from rfl)
  have c1 := (RR0.cell 1).trans (show _ = some (Value.int .i64 d0.kind) from rfl)
  have c2 := (RR0.cell 2).trans (show _ = some (Value.int .i64 d0.side) from rfl)
  have c3 := (RR0.cell 3).trans (show _ = some (Value.int .i64 d0.step) from rfl)
  have c4 := (RR0.cell 4).trans (show _ = some (Value.int .i64 d1.kind) from rfl)
  have c5 := (RR0.cell 5).trans (show _ = some (Value.int .i64 d1.side) from rfl)
  have c6 := (RR0.cell 6).trans (show _ = some (Value.int .i64 d1.step) from rfl)
  clear RR0
  go_enter Try.func18, Try.ntmps18
  go_wp2_with fail
  refine wp_loop_rounds 3 ?_
  rw [rounds_succ]
  go_wp2_with fail
  refine (HR _).mono ?_
  rintro e w1 ⟨rfl, hb⟩
  replace c0 := cell_later hb (cell_later ((Below.refl _ _).alloc (Nat.le_refl _) _) c0)
  replace c1 := cell_later hb (cell_later ((Below.refl _ _).alloc (Nat.le_refl _) _) c1)
  replace c2 := cell_later hb (cell_later ((Below.refl _ _).alloc (Nat.le_refl _) _) c2)
  replace c3 := cell_later hb (cell_later ((Below.refl _ _).alloc (Nat.le_refl _) _) c3)
  replace c4 := cell_later hb (cell_later ((Below.refl _ _).alloc (Nat.le_refl _) _) c4)
  replace c5 := cell_later hb (cell_later ((Below.refl _ _).alloc (Nat.le_refl _) _) c5)
  replace c6 := cell_later hb (cell_later ((Below.refl _ _).alloc (Nat.le_refl _) _) c6)
  have fd00 := ((Row.later (Row.new _ _ _) hb).cell 0).trans (show _ = some (Value.int .i64 d0.kind) from rfl)
  have fd01 := ((Row.later (Row.new _ _ _) hb).cell 1).trans (show _ = some (Value.int .i64 d0.side) from rfl)
  have fd02 := ((Row.later (Row.new _ _ _) hb).cell 2).trans (show _ = some (Value.int .i64 d0.step) from rfl)
  simp only [World.size_alloc] at fd00
  simp only [World.size_alloc] at fd01
  simp only [World.size_alloc] at fd02
  replace hb0 := below_step (hb0.alloc (Nat.le_trans hb0.size (Nat.le_refl _)) _) hb
  clear hb
  have lc := World.block_lt_of_cell? _ _ c0
  dsimp only at lc
  have lfd0 := World.block_lt_of_cell? _ _ fd00
  dsimp only at lfd0
  go_wp2
  go_ret
  exact ⟨rfl, (by repeat (first | exact Below.refl _ _ | assumption | (with_reducible refine Below.setCell ?_ ?h _; case h => first | omega | (simp; done) | (simp; omega)) | (with_reducible refine Below.alloc ?_ ?h _; case h => first | omega | (simp; done) | (simp; omega)) | (with_reducible refine Below.drew ?_) | (with_reducible refine Below.trans ?_ (hb4.mono ?h); case h => first | omega | (simp; done) | (simp; omega)) | (with_reducible refine Below.trans ?_ (hb3.mono ?h); case h => first | omega | (simp; done) | (simp; omega)) | (with_reducible refine Below.trans ?_ (hb2.mono ?h); case h => first | omega | (simp; done) | (simp; omega)) | (with_reducible refine Below.trans ?_ (hb.mono ?h); case h => first | omega | (simp; done) | (simp; omega)) | (with_reducible refine Below.trans ?_ (hb0.mono ?h); case h => first | omega | (simp; done) | (simp; omega))))⟩
set_option maxRecDepth 100000 in
set_option maxHeartbeats 4000000 in
theorem sound_one (s : Sp) (hn : s.n = 1) (hr : rightD s.d0 = true) (w : World) : Calls Try.prog 18 #[sv s] w fun e w' => e = .returned (.bool (decide (s.d1 = dz))) ∧ Below w.heap.size w w' := by
  obtain ⟨n, d0, d1⟩ := s
  dsimp only at hn hr
  subst hn
  have i0 := ixd0
  have i1 := ixd1
  have q1 := dz_neq d1
  dsimp only
  generalize decide (d1 = dz) = z1 at *
  have HR := dright_t d0
  rw [hr] at HR
  unfold sv
  unfold dv at HR
  dsimp only
  obtain ⟨RR0, hb0⟩ := one_row w #[.int .i64 1, .int .i64 d0.kind, .int .i64 d0.side, .int .i64 d0.step, .int .i64 d1.kind, .int .i64 d1.side, .int .i64 d1.step] 26
  have c0 := (RR0.cell 0).trans (show _ = some (Value.int .i64 1) from rfl)
  have c1 := (RR0.cell 1).trans (show _ = some (Value.int .i64 d0.kind) from rfl)
  have c2 := (RR0.cell 2).trans (show _ = some (Value.int .i64 d0.side) from rfl)
  have c3 := (RR0.cell 3).trans (show _ = some (Value.int .i64 d0.step) from rfl)
  have c4 := (RR0.cell 4).trans (show _ = some (Value.int .i64 d1.kind) from rfl)
  have c5 := (RR0.cell 5).trans (show _ = some (Value.int .i64 d1.side) from rfl)
  have c6 := (RR0.cell 6).trans (show _ = some (Value.int .i64 d1.step) from rfl)
  clear RR0
  cases z1 with
  | false =>
    go_enter Try.func18, Try.ntmps18
    go_wp2_with fail
    refine wp_loop_rounds 3 ?_
    rw [rounds_succ]
    go_wp2_with fail
    refine (HR _).mono ?_
    rintro e w2 ⟨rfl, hb⟩
    replace c0 := cell_later hb (cell_later ((Below.refl _ _).alloc (Nat.le_refl _) _) c0)
    replace c1 := cell_later hb (cell_later ((Below.refl _ _).alloc (Nat.le_refl _) _) c1)
    replace c2 := cell_later hb (cell_later ((Below.refl _ _).alloc (Nat.le_refl _) _) c2)
    replace c3 := cell_later hb (cell_later ((Below.refl _ _).alloc (Nat.le_refl _) _) c3)
    replace c4 := cell_later hb (cell_later ((Below.refl _ _).alloc (Nat.le_refl _) _) c4)
    replace c5 := cell_later hb (cell_later ((Below.refl _ _).alloc (Nat.le_refl _) _) c5)
    replace c6 := cell_later hb (cell_later ((Below.refl _ _).alloc (Nat.le_refl _) _) c6)
    have fd00 := ((Row.later (Row.new _ _ _) hb).cell 0).trans (show _ = some (Value.int .i64 d0.kind) from rfl)
    have fd01 := ((Row.later (Row.new _ _ _) hb).cell 1).trans (show _ = some (Value.int .i64 d0.side) from rfl)
    have fd02 := ((Row.later (Row.new _ _ _) hb).cell 2).trans (show _ = some (Value.int .i64 d0.step) from rfl)
    simp only [World.size_alloc] at fd00
    simp only [World.size_alloc] at fd01
    simp only [World.size_alloc] at fd02
    replace hb0 := below_step (hb0.alloc (Nat.le_trans hb0.size (Nat.le_refl _)) _) hb
    clear hb
    have lc := World.block_lt_of_cell? _ _ c0
    dsimp only at lc
    have lfd0 := World.block_lt_of_cell? _ _ fd00
    dsimp only at lfd0
    go_wp2
    rw [rounds_succ]
    go_wp2
    go_ret
    exact ⟨rfl, (by repeat (first | exact Below.refl _ _ | assumption | (with_reducible refine Below.setCell ?_ ?h _; case h => first | omega | (simp; done) | (simp; omega)) | (with_reducible refine Below.alloc ?_ ?h _; case h => first | omega | (simp; done) | (simp; omega)) | (with_reducible refine Below.drew ?_) | (with_reducible refine Below.trans ?_ (hb4.mono ?h); case h => first | omega | (simp; done) | (simp; omega)) | (with_reducible refine Below.trans ?_ (hb3.mono ?h); case h => first | omega | (simp; done) | (simp; omega)) | (with_reducible refine Below.trans ?_ (hb2.mono ?h); case h => first | omega | (simp; done) | (simp; omega)) | (with_reducible refine Below.trans ?_ (hb.mono ?h); case h => first | omega | (simp; done) | (simp; omega)) | (with_reducible refine Below.trans ?_ (hb0.mono ?h); case h => first | omega | (simp; done) | (simp; omega))))⟩
  | true =>
    go_enter Try.func18, Try.ntmps18
    go_wp2_with fail
    refine wp_loop_rounds 3 ?_
    rw [rounds_succ]
    go_wp2_with fail
    refine (HR _).mono ?_
    rintro e w3 ⟨rfl, hb⟩
    replace c0 := cell_later hb (cell_later ((Below.refl _ _).alloc (Nat.le_refl _) _) c0)
    replace c1 := cell_later hb (cell_later ((Below.refl _ _).alloc (Nat.le_refl _) _) c1)
    replace c2 := cell_later hb (cell_later ((Below.refl _ _).alloc (Nat.le_refl _) _) c2)
    replace c3 := cell_later hb (cell_later ((Below.refl _ _).alloc (Nat.le_refl _) _) c3)
    replace c4 := cell_later hb (cell_later ((Below.refl _ _).alloc (Nat.le_refl _) _) c4)
    replace c5 := cell_later hb (cell_later ((Below.refl _ _).alloc (Nat.le_refl _) _) c5)
    replace c6 := cell_later hb (cell_later ((Below.refl _ _).alloc (Nat.le_refl _) _) c6)
    have fd00 := ((Row.later (Row.new _ _ _) hb).cell 0).trans (show _ = some (Value.int .i64 d0.kind) from rfl)
    have fd01 := ((Row.later (Row.new _ _ _) hb).cell 1).trans (show _ = some (Value.int .i64 d0.side) from rfl)
    have fd02 := ((Row.later (Row.new _ _ _) hb).cell 2).trans (show _ = some (Value.int .i64 d0.step) from rfl)
    simp only [World.size_alloc] at fd00
    simp only [World.size_alloc] at fd01
    simp only [World.size_alloc] at fd02
    replace hb0 := below_step (hb0.alloc (Nat.le_trans hb0.size (Nat.le_refl _)) _) hb
    clear hb
    have lc := World.block_lt_of_cell? _ _ c0
    dsimp only at lc
    have lfd0 := World.block_lt_of_cell? _ _ fd00
    dsimp only at lfd0
    go_wp2
    rw [rounds_succ]
    go_wp2
    rw [rounds_succ]
    go_wp2
    go_ret
    exact ⟨rfl, (by repeat (first | exact Below.refl _ _ | assumption | (with_reducible refine Below.setCell ?_ ?h _; case h => first | omega | (simp; done) | (simp; omega)) | (with_reducible refine Below.alloc ?_ ?h _; case h => first | omega | (simp; done) | (simp; omega)) | (with_reducible refine Below.drew ?_) | (with_reducible refine Below.trans ?_ (hb4.mono ?h); case h => first | omega | (simp; done) | (simp; omega)) | (with_reducible refine Below.trans ?_ (hb3.mono ?h); case h => first | omega | (simp; done) | (simp; omega)) | (with_reducible refine Below.trans ?_ (hb2.mono ?h); case h => first | omega | (simp; done) | (simp; omega)) | (with_reducible refine Below.trans ?_ (hb.mono ?h); case h => first | omega | (simp; done) | (simp; omega)) | (with_reducible refine Below.trans ?_ (hb0.mono ?h); case h => first | omega | (simp; done) | (simp; omega))))⟩
set_option maxRecDepth 100000 in
set_option maxHeartbeats 4000000 in
theorem sound_two (s : Sp) (hn : 2 ≤ s.n) (hr : rightD s.d0 = true) (w : World) : Calls Try.prog 18 #[sv s] w fun e w' => e = .returned (.bool (decide (s.n = 2) && rightD s.d1)) ∧ Below w.heap.size w w' := by
  obtain ⟨n, d0, d1⟩ := s
  dsimp only at hn hr
  dsimp only
  have i0 := ixd0
  have i1 := ixd1
  have HR := dright_t d0
  rw [hr] at HR
  have HS := dright_t d1
  generalize rightD d1 = r1 at *
  unfold sv
  unfold dv at HR HS
  dsimp only
  obtain ⟨RR0, hb0⟩ := one_row w #[.int .i64 n, .int .i64 d0.kind, .int .i64 d0.side, .int .i64 d0.step, .int .i64 d1.kind, .int .i64 d1.side, .int .i64 d1.step] 26
  have c0 := (RR0.cell 0).trans (show _ = some (Value.int .i64 n) from rfl)
  have c1 := (RR0.cell 1).trans (show _ = some (Value.int .i64 d0.kind) from rfl)
  have c2 := (RR0.cell 2).trans (show _ = some (Value.int .i64 d0.side) from rfl)
  have c3 := (RR0.cell 3).trans (show _ = some (Value.int .i64 d0.step) from rfl)
  have c4 := (RR0.cell 4).trans (show _ = some (Value.int .i64 d1.kind) from rfl)
  have c5 := (RR0.cell 5).trans (show _ = some (Value.int .i64 d1.side) from rfl)
  have c6 := (RR0.cell 6).trans (show _ = some (Value.int .i64 d1.step) from rfl)
  clear RR0
  have n1 : (n == 1) = false := by simp; omega
  cases r1 with
  | false =>
    rw [Bool.and_false]
    go_enter Try.func18, Try.ntmps18
    go_wp2_with fail
    refine wp_loop_rounds 3 ?_
    rw [rounds_succ]
    go_wp2_with fail
    refine (HR _).mono ?_
    rintro e w4 ⟨rfl, hb⟩
    replace c0 := cell_later hb (cell_later ((Below.refl _ _).alloc (Nat.le_refl _) _) c0)
    replace c1 := cell_later hb (cell_later ((Below.refl _ _).alloc (Nat.le_refl _) _) c1)
    replace c2 := cell_later hb (cell_later ((Below.refl _ _).alloc (Nat.le_refl _) _) c2)
    replace c3 := cell_later hb (cell_later ((Below.refl _ _).alloc (Nat.le_refl _) _) c3)
    replace c4 := cell_later hb (cell_later ((Below.refl _ _).alloc (Nat.le_refl _) _) c4)
    replace c5 := cell_later hb (cell_later ((Below.refl _ _).alloc (Nat.le_refl _) _) c5)
    replace c6 := cell_later hb (cell_later ((Below.refl _ _).alloc (Nat.le_refl _) _) c6)
    have fd00 := ((Row.later (Row.new _ _ _) hb).cell 0).trans (show _ = some (Value.int .i64 d0.kind) from rfl)
    have fd01 := ((Row.later (Row.new _ _ _) hb).cell 1).trans (show _ = some (Value.int .i64 d0.side) from rfl)
    have fd02 := ((Row.later (Row.new _ _ _) hb).cell 2).trans (show _ = some (Value.int .i64 d0.step) from rfl)
    simp only [World.size_alloc] at fd00
    simp only [World.size_alloc] at fd01
    simp only [World.size_alloc] at fd02
    replace hb0 := below_step (hb0.alloc (Nat.le_trans hb0.size (Nat.le_refl _)) _) hb
    clear hb
    have lc := World.block_lt_of_cell? _ _ c0
    dsimp only at lc
    have lfd0 := World.block_lt_of_cell? _ _ fd00
    dsimp only at lfd0
    go_wp2
    rw [rounds_succ]
    go_wp2_with fail
    refine (HS _).mono ?_
    rintro e w5 ⟨rfl, hb⟩
    replace c0 := cell_later hb (cell_later ((Below.refl _ _).alloc (Nat.le_refl _) _) c0)
    replace c1 := cell_later hb (cell_later ((Below.refl _ _).alloc (Nat.le_refl _) _) c1)
    replace c2 := cell_later hb (cell_later ((Below.refl _ _).alloc (Nat.le_refl _) _) c2)
    replace c3 := cell_later hb (cell_later ((Below.refl _ _).alloc (Nat.le_refl _) _) c3)
    replace c4 := cell_later hb (cell_later ((Below.refl _ _).alloc (Nat.le_refl _) _) c4)
    replace c5 := cell_later hb (cell_later ((Below.refl _ _).alloc (Nat.le_refl _) _) c5)
    replace c6 := cell_later hb (cell_later ((Below.refl _ _).alloc (Nat.le_refl _) _) c6)
    replace fd00 := cell_later hb (cell_later ((Below.refl _ _).alloc (Nat.le_refl _) _) fd00)
    replace fd01 := cell_later hb (cell_later ((Below.refl _ _).alloc (Nat.le_refl _) _) fd01)
    replace fd02 := cell_later hb (cell_later ((Below.refl _ _).alloc (Nat.le_refl _) _) fd02)
    have fd10 := ((Row.later (Row.new _ _ _) hb).cell 0).trans (show _ = some (Value.int .i64 d1.kind) from rfl)
    have fd11 := ((Row.later (Row.new _ _ _) hb).cell 1).trans (show _ = some (Value.int .i64 d1.side) from rfl)
    have fd12 := ((Row.later (Row.new _ _ _) hb).cell 2).trans (show _ = some (Value.int .i64 d1.step) from rfl)
    have mfd1 := hb0.size
    replace hb0 := below_step (hb0.alloc hb0.size _) hb
    clear hb
    generalize w4.heap.size = gfd1 at *
    have lc := World.block_lt_of_cell? _ _ c0
    dsimp only at lc
    have lfd0 := World.block_lt_of_cell? _ _ fd00
    dsimp only at lfd0
    have lfd1 := World.block_lt_of_cell? _ _ fd10
    dsimp only at lfd1
    go_wp2
    go_ret
    exact ⟨rfl, (by repeat (first | exact Below.refl _ _ | assumption | (with_reducible refine Below.setCell ?_ ?h _; case h => first | omega | (simp; done) | (simp; omega)) | (with_reducible refine Below.alloc ?_ ?h _; case h => first | omega | (simp; done) | (simp; omega)) | (with_reducible refine Below.drew ?_) | (with_reducible refine Below.trans ?_ (hb4.mono ?h); case h => first | omega | (simp; done) | (simp; omega)) | (with_reducible refine Below.trans ?_ (hb3.mono ?h); case h => first | omega | (simp; done) | (simp; omega)) | (with_reducible refine Below.trans ?_ (hb2.mono ?h); case h => first | omega | (simp; done) | (simp; omega)) | (with_reducible refine Below.trans ?_ (hb.mono ?h); case h => first | omega | (simp; done) | (simp; omega)) | (with_reducible refine Below.trans ?_ (hb0.mono ?h); case h => first | omega | (simp; done) | (simp; omega))))⟩
  | true =>
    rw [Bool.and_true]
    go_enter Try.func18, Try.ntmps18
    go_wp2_with fail
    refine wp_loop_rounds 3 ?_
    rw [rounds_succ]
    go_wp2_with fail
    refine (HR _).mono ?_
    rintro e w6 ⟨rfl, hb⟩
    replace c0 := cell_later hb (cell_later ((Below.refl _ _).alloc (Nat.le_refl _) _) c0)
    replace c1 := cell_later hb (cell_later ((Below.refl _ _).alloc (Nat.le_refl _) _) c1)
    replace c2 := cell_later hb (cell_later ((Below.refl _ _).alloc (Nat.le_refl _) _) c2)
    replace c3 := cell_later hb (cell_later ((Below.refl _ _).alloc (Nat.le_refl _) _) c3)
    replace c4 := cell_later hb (cell_later ((Below.refl _ _).alloc (Nat.le_refl _) _) c4)
    replace c5 := cell_later hb (cell_later ((Below.refl _ _).alloc (Nat.le_refl _) _) c5)
    replace c6 := cell_later hb (cell_later ((Below.refl _ _).alloc (Nat.le_refl _) _) c6)
    have fd00 := ((Row.later (Row.new _ _ _) hb).cell 0).trans (show _ = some (Value.int .i64 d0.kind) from rfl)
    have fd01 := ((Row.later (Row.new _ _ _) hb).cell 1).trans (show _ = some (Value.int .i64 d0.side) from rfl)
    have fd02 := ((Row.later (Row.new _ _ _) hb).cell 2).trans (show _ = some (Value.int .i64 d0.step) from rfl)
    simp only [World.size_alloc] at fd00
    simp only [World.size_alloc] at fd01
    simp only [World.size_alloc] at fd02
    replace hb0 := below_step (hb0.alloc (Nat.le_trans hb0.size (Nat.le_refl _)) _) hb
    clear hb
    have lc := World.block_lt_of_cell? _ _ c0
    dsimp only at lc
    have lfd0 := World.block_lt_of_cell? _ _ fd00
    dsimp only at lfd0
    go_wp2
    rw [rounds_succ]
    go_wp2_with fail
    refine (HS _).mono ?_
    rintro e w7 ⟨rfl, hb⟩
    replace c0 := cell_later hb (cell_later ((Below.refl _ _).alloc (Nat.le_refl _) _) c0)
    replace c1 := cell_later hb (cell_later ((Below.refl _ _).alloc (Nat.le_refl _) _) c1)
    replace c2 := cell_later hb (cell_later ((Below.refl _ _).alloc (Nat.le_refl _) _) c2)
    replace c3 := cell_later hb (cell_later ((Below.refl _ _).alloc (Nat.le_refl _) _) c3)
    replace c4 := cell_later hb (cell_later ((Below.refl _ _).alloc (Nat.le_refl _) _) c4)
    replace c5 := cell_later hb (cell_later ((Below.refl _ _).alloc (Nat.le_refl _) _) c5)
    replace c6 := cell_later hb (cell_later ((Below.refl _ _).alloc (Nat.le_refl _) _) c6)
    replace fd00 := cell_later hb (cell_later ((Below.refl _ _).alloc (Nat.le_refl _) _) fd00)
    replace fd01 := cell_later hb (cell_later ((Below.refl _ _).alloc (Nat.le_refl _) _) fd01)
    replace fd02 := cell_later hb (cell_later ((Below.refl _ _).alloc (Nat.le_refl _) _) fd02)
    have fd10 := ((Row.later (Row.new _ _ _) hb).cell 0).trans (show _ = some (Value.int .i64 d1.kind) from rfl)
    have fd11 := ((Row.later (Row.new _ _ _) hb).cell 1).trans (show _ = some (Value.int .i64 d1.side) from rfl)
    have fd12 := ((Row.later (Row.new _ _ _) hb).cell 2).trans (show _ = some (Value.int .i64 d1.step) from rfl)
    have mfd1 := hb0.size
    replace hb0 := below_step (hb0.alloc hb0.size _) hb
    clear hb
    generalize w6.heap.size = gfd1 at *
    have lc := World.block_lt_of_cell? _ _ c0
    dsimp only at lc
    have lfd0 := World.block_lt_of_cell? _ _ fd00
    dsimp only at lfd0
    have lfd1 := World.block_lt_of_cell? _ _ fd10
    dsimp only at lfd1
    go_wp2
    rw [rounds_succ]
    go_wp2
    go_ret
    exact ⟨by first | rfl | simp, (by repeat (first | exact Below.refl _ _ | assumption | (with_reducible refine Below.setCell ?_ ?h _; case h => first | omega | (simp; done) | (simp; omega)) | (with_reducible refine Below.alloc ?_ ?h _; case h => first | omega | (simp; done) | (simp; omega)) | (with_reducible refine Below.drew ?_) | (with_reducible refine Below.trans ?_ (hb4.mono ?h); case h => first | omega | (simp; done) | (simp; omega)) | (with_reducible refine Below.trans ?_ (hb3.mono ?h); case h => first | omega | (simp; done) | (simp; omega)) | (with_reducible refine Below.trans ?_ (hb2.mono ?h); case h => first | omega | (simp; done) | (simp; omega)) | (with_reducible refine Below.trans ?_ (hb.mono ?h); case h => first | omega | (simp; done) | (simp; omega)) | (with_reducible refine Below.trans ?_ (hb0.mono ?h); case h => first | omega | (simp; done) | (simp; omega))))⟩
theorem sound_t (s : Sp) (w : World) : Calls Try.prog 18 #[sv s] w fun e w' => e = .returned (.bool (soundS s)) ∧ Below w.heap.size w w' := by
  unfold soundS
  by_cases h : s.n ≤ 0
  · rw [if_neg (by omega), decide_eq_false (by omega), Bool.false_and]
    exact sound_low s h w
  cases hr : rightD s.d0 with
  | false =>
    have := sound_bad0 s (by omega) hr w
    split
    · exact this
    · simpa using this
  | true =>
    by_cases h1 : s.n = 1
    · rw [if_pos h1]; exact sound_one s h1 hr w
    · rw [if_neg h1]; exact sound_two s (by omega) hr w
end Go.Proofs.Ytbekocknfpekoaa
