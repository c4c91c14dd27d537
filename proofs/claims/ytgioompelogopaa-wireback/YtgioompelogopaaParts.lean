/- A slice of parts that came in, and what is kept of a writer and of a row of bytes. No conditions beyond lengths. -/
import Derived.Test.YtgioompelogopaaAlive2
namespace Go.Proofs.Ytgioompelogopaa
set_option linter.unusedVariables false
set_option linter.unusedSimpArgs false
open Go.RowKit
structure PartAt (w : World) (g o : Nat) (k i n ah al : Int) (s : ByteArray) (b : Value) (bl : List Int) : Prop where
  c0 : w.cell? ⟨g, o, none⟩ = some (.int .i64 k)
  c1 : w.cell? ⟨g, o + 1, none⟩ = some (.int .i64 i)
  c2 : w.cell? ⟨g, o + 2, none⟩ = some (.int .u64 n)
  c3 : w.cell? ⟨g, o + 3, none⟩ = some (.int .u64 ah)
  c4 : w.cell? ⟨g, o + 4, none⟩ = some (.int .u64 al)
  c5 : w.cell? ⟨g, o + 5, none⟩ = some (.string s)
  c6 : w.cell? ⟨g, o + 6, none⟩ = some b
  hn : Word n
  hh : Word ah
  hl : Word al
  hb : BS w b bl
/-- the value v, a slice of parts -/
def PS (w : World) (v : Value) : Prop :=
  ∃ lp, ∃ n c : Nat, v = .slice lp n c ∧ n ≤ c ∧ c ≤ maxLen ∧ (0 < n → ∃ g o, lp = some ⟨g, o, none⟩ ∧ ∀ j, j < n → ∃ k i m ah al s b bl, PartAt w g (o + j * 7) k i m ah al s b bl)
theorem below_cell {base : Nat} {w w1 : World} (hb : Below base w w1) (hs : base = w.heap.size) {a : Addr} {v : Value} (h : w.cell? a = some v) : w1.cell? a = some v := by
  subst hs; exact cell_later hb h
theorem PartAt.later {w w1 : World} {g o : Nat} {k i n ah al : Int} {s : ByteArray} {b : Value} {bl : List Int} (h : PartAt w g o k i n ah al s b bl) (hb : Below w.heap.size w w1) : PartAt w1 g o k i n ah al s b bl :=
  ⟨cell_later hb h.c0, cell_later hb h.c1, cell_later hb h.c2, cell_later hb h.c3, cell_later hb h.c4, cell_later hb h.c5, cell_later hb h.c6, h.hn, h.hh, h.hl, h.hb.later hb⟩
theorem BS.lt {w : World} {v : Value} {l : List Int} (h : BS w v l) (hp : 0 < l.length) (g : Nat) (hg : v.ownBlock = some g) : g < w.heap.size := by
  obtain ⟨p, c, rfl, h1, h2, h3, h4, h6⟩ := h
  obtain ⟨g', o, rfl, h5⟩ := h3 hp
  have e : g' = g := by simpa [Value.ownBlock] using hg
  subst e
  exact World.block_lt_of_cell? _ _ (h5 0 _ (List.getElem?_eq_getElem hp))
theorem Own.keeps {base : Nat} {F : Nat → Prop} {w w1 : World} {v : Value} {l : List Int} (h : Own base w v l) (hk : Keeps F w w1) (hF : ∀ g, v.ownBlock = some g → ¬ F g) : Own base w1 v l := by
  obtain ⟨⟨hl, h⟩, hr⟩ := h
  refine ⟨⟨hl, ?_⟩, hr⟩
  rcases h with h | ⟨g, cap, cur, hv, hbs, hg, h1⟩
  · exact .inl h
  · subst hv
    exact .inr ⟨g, cap, cur, rfl, hbs, hk.row (t := 5) hg (hF g rfl), h1⟩
theorem Wr.keeps {base : Nat} {F G : Nat → Prop} {w w1 : World} {p : Nat} {l : List Int} (h : Wr base w p l F) (hk : Keeps G w w1) (hG : ∀ k, F k → ¬ G k) : Wr base w1 p l F := by
  refine ⟨h.lp, h.fp, ?_⟩
  rcases h.st with ⟨R, hl⟩ | ⟨q, v, R, Rq, ho, h1, h2, h3, h4, h5, h6⟩
  · exact .inl ⟨hk.row R (hG _ h.fp), hl⟩
  · exact .inr ⟨q, v, hk.row R (hG _ h.fp), hk.row Rq (hG _ h5), ho.keeps hk (fun g hg => hG g (h6 g hg)), h1, h2, h3, h4, h5, h6⟩
theorem textB_len (s : ByteArray) : (textB s).length ≤ 65537 := by
  unfold textB
  rw [List.length_append, numB_length, strB_length]
  unfold cut65
  split
  · omega
  · simp; omega
theorem partB_len (k i n ah al : Int) (s : ByteArray) (bl : List Int) (h : bl.length ≤ 300) : (partB k i n ah al s bl).length ≤ 65537 := by
  unfold partB
  have h1 := limK_range i
  have h2 := textB_len s
  split
  · rw [numB_length]; omega
  split
  · rw [List.length_append, numB_length, numB_length]; omega
  split
  · exact h2
  split
  · omega
  · simp
/-- what the law's walk holds: a writer and the bytes that it should have -/
structure Writ (B : Nat) (w : World) (v : Value) (L : List Int) (F : Nat → Prop) : Prop where
  wr : Wr B w B L F
  own : Own B w v L
  far : ∀ k, F k → B ≤ k ∧ k < w.heap.size ∧ v.ownBlock ≠ some k
theorem Writ.later {B : Nat} {w w1 : World} {v : Value} {L : List Int} {F : Nat → Prop} (h : Writ B w v L F) (hb : Below w.heap.size w w1) : Writ B w1 v L F :=
  ⟨h.wr.later hb, h.own.later hb, fun k hk => ⟨(h.far k hk).1, Nat.lt_of_lt_of_le (h.far k hk).2.1 hb.size, (h.far k hk).2.2⟩⟩
/-- behind a put: the writer has more, the bytes are as they were -/
theorem Writ.put {B : Nat} {w w1 : World} {v : Value} {L M : List Int} {F F' : Nat → Prop} (h : Writ B w v L F) (hw : Wr B w1 B (L ++ M) F') (hF : ∀ k, F' k → F k ∨ w.heap.size ≤ k) (hk : Keeps F w w1) (hB : B ≤ w.heap.size) :
    Own B w1 v L ∧ Wr B w1 B (L ++ M) (fun k => F' k ∧ k < w1.heap.size) ∧ (∀ k, F' k ∧ k < w1.heap.size → B ≤ k ∧ k < w1.heap.size ∧ v.ownBlock ≠ some k) := by
  refine ⟨h.own.keeps hk (fun g hg f => (h.far g f).2.2 hg), hw.tight, fun k hk2 => ⟨?_, hk2.2, fun e => ?_⟩⟩
  · rcases hF k hk2.1 with h1 | h1
    · exact (h.far k h1).1
    · omega
  · have hb := h.own.block k e
    rcases hF k hk2.1 with h1 | h1
    · exact (h.far k h1).2.2 e
    · omega
theorem wpList_append_run {P : Program} {w w' : World} {ops : Array Oper} {rest : List Oper} {o : Oper} {a : Act} {Q : Exit → Act → World → Prop} (hg : o.guard = none) (s x : Operand) (t : TypeId) (hop : o.op = .call { callee := .builtin .append, args := #[s, x], argTypes := #[t, t] })
    {v bv v' : Value} (hs : a.eval s = v) (hx : a.eval x = bv) (hr : (Builtin.append_ #[t, t] o.type #[v, bv]).run P w = .ok v' w') (hK : wpList P ops Q rest (a.put o.dst v') w') : wpList P ops Q (o :: rest) a w := by
  refine wpList_plain hg fun K hK' => ?_
  exact wp_append_run s x t hop hs hx hr (hK' _ _ hK)
end Go.Proofs.Ytgioompelogopaa
