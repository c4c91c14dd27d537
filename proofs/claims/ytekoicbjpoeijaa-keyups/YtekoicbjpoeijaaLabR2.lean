/- Split of the reference of layer 5. No conditions beyond the text's length. -/
import Derived.Test.YtekoicbjpoeijaaLabR1
namespace Go.Proofs.Ytekoicbjpoeijaa
set_option linter.unusedVariables false
set_option linter.unusedSimpArgs false
open Go.RowKit
theorem take_drop_succ (l : List UInt8) (fr j : Nat) (h : fr ≤ j) (hj : j < l.length) : (l.take (j + 1)).drop fr = (l.take j).drop fr ++ [l[j]] := by
  rw [List.take_add_one, List.getElem?_eq_getElem hj, List.drop_append_of_le_length (by simp; omega)]
  rfl
theorem drop_split (l : List UInt8) (fr j : Nat) (h : fr ≤ j) (hj : j < l.length) : l.drop fr = (l.take j).drop fr ++ l[j] :: l.drop (j + 1) := by
  have h1 : l.drop fr = (l.take j ++ l.drop j).drop fr := by rw [List.take_append_drop]
  rw [h1, List.drop_append_of_le_length (by simp; omega), List.drop_eq_getElem_cons hj]
def SpInv (l : List UInt8) (fr j : Nat) (vs : List (List UInt8)) : Prop :=
  (∀ x ∈ vs, labB x = true) ∧ ((fr ≤ j ∧ j ≤ l.length ∧ (46 : UInt8) ∉ (l.take j).drop fr ∧ splitD l = vs ++ splitD (l.drop fr)) ∨ (j = l.length + 1 ∧ splitD l = vs))
theorem SpInv.next {l : List UInt8} {fr j : Nat} {vs : List (List UInt8)} (h : SpInv l fr j vs) (hj : j < l.length) (hc : l[j] ≠ 46) : SpInv l fr (j + 1) vs := by
  refine ⟨h.1, ?_⟩
  rcases h.2 with ⟨h1, h2, h3, h4⟩ | ⟨h1, _⟩
  · refine .inl ⟨by omega, by omega, ?_, h4⟩
    rw [take_drop_succ l fr j h1 hj]
    intro hm
    rcases List.mem_append.1 hm with hm | hm
    · exact h3 hm
    · simp at hm; exact hc hm.symm
  · omega
/-- what a part at place j does -/
def PartDo (l : List UInt8) (fr j : Nat) (vs : List (List UInt8)) (p : List UInt8) : Prop := fr ≤ j ∧ (labB p = true → vs.length < 8 → SpInv l (j + 1) (j + 1) (vs ++ [p])) ∧ (labB p = false ∨ 8 ≤ vs.length → rightB l = false)
theorem rb_false {l : List UInt8} (h0 : l ≠ []) {vs rest : List (List UInt8)} {p : List UInt8} (h : splitD l = vs ++ p :: rest) (hb : labB p = false ∨ 8 ≤ vs.length) : rightB l = false := by
  unfold rightB partsL
  rw [if_neg h0, h]
  rcases hb with hb | hb
  · simp [hb]
  · have : ¬ (vs ++ p :: rest).length ≤ 8 := by simp; omega
    simp only [this]; simp
theorem SpInv.part {l : List UInt8} {fr j : Nat} {vs : List (List UInt8)} (h0 : l ≠ []) (h : SpInv l fr j vs) (hj : j < l.length) (hc : l[j] = 46) : PartDo l fr j vs ((l.take j).drop fr) := by
  rcases h.2 with ⟨h1, h2, h3, h4⟩ | ⟨h1, _⟩
  · have hs : splitD (l.drop fr) = (l.take j).drop fr :: splitD (l.drop (j + 1)) := by rw [drop_split l fr j h1 hj, hc, splitD_at _ _ h3]
    rw [hs] at h4
    refine ⟨h1, fun hl h8 => ⟨?_, .inl ⟨Nat.le_refl _, by omega, ?_, ?_⟩⟩, fun hb => rb_false h0 h4 hb⟩
    · intro x hx
      rcases List.mem_append.1 hx with hx | hx
      · exact h.1 x hx
      · simp at hx; rw [hx]; exact hl
    · rw [List.drop_eq_nil_of_le (by rw [List.length_take]; omega)]; simp
    · rw [h4]; simp
  · omega
theorem SpInv.last {l : List UInt8} {fr : Nat} {vs : List (List UInt8)} (h0 : l ≠ []) (h : SpInv l fr l.length vs) : PartDo l fr l.length vs ((l.take l.length).drop fr) := by
  rcases h.2 with ⟨h1, h2, h3, h4⟩ | ⟨h1, _⟩
  · rw [List.take_length] at h3 ⊢
    rw [splitD_no _ h3] at h4
    refine ⟨h1, fun hl h8 => ⟨?_, .inr ⟨rfl, h4⟩⟩, fun hb => rb_false h0 h4 hb⟩
    intro x hx
    rcases List.mem_append.1 hx with hx | hx
    · exact h.1 x hx
    · simp at hx; rw [hx]; exact hl
  · omega
theorem SpInv.done {l : List UInt8} {fr : Nat} {vs : List (List UInt8)} (h0 : l ≠ []) (h : SpInv l fr (l.length + 1) vs) (h8 : vs.length ≤ 8) : rightB l = true ∧ labsL l = vs := by
  rcases h.2 with ⟨_, h2, _⟩ | ⟨_, h4⟩
  · omega
  · have hr : rightB l = true := by
      unfold rightB partsL
      rw [if_neg h0, h4]
      simp [h8]; exact h.1
    exact ⟨hr, by unfold labsL partsL; rw [if_pos hr, if_neg h0, h4]⟩
theorem SpInv.zero (l : List UInt8) : SpInv l 0 0 [] := ⟨by simp, .inl ⟨Nat.le_refl _, by omega, by simp, by simp⟩⟩
/-- the answer of the reference's Split -/
def RSplitPost (l : List UInt8) (w : World) (e : Ending) (w' : World) : Prop := ∃ v, e = .returned (.tuple #[v, .bool (rightB l)]) ∧ SS w' v (labsL l) ∧ Below w.heap.size w w'
theorem RSplit_bad {l : List UInt8} {w w' : World} (h : rightB l = false) (hb : Below w.heap.size w w') : RSplitPost l w (.returned (.tuple #[.slice none 0 0, .bool false])) w' := by
  refine ⟨_, by rw [h], ?_, hb⟩
  have : labsL l = [] := by unfold labsL; rw [h]; simp
  rw [this]; exact SS.nil _
set_option maxRecDepth 100000 in
set_option maxHeartbeats 8000000 in
theorem rSplit_t (l : List UInt8) (hl : l.length ≤ 140737488355328) (w : World) : Calls Try.prog 72 #[.string ⟨l.toArray⟩] w (RSplitPost l w) := by
  have hsz := bs_size l
  by_cases h0 : l = []
  · subst h0
    have hP : RSplitPost [] w (.returned (.tuple #[.slice none 0 0, .bool true])) w := ⟨_, rfl, SS.nil _, Below.refl _ _⟩
    have HP := Lib.hid hP
    clear hP
    go_enter Try.func72, Try.ntmps72
    go_wp2_with fail
    go_loopw [4, 5, 6] (fun o f i wr => o = .slice none 0 0 ∧ f = .int .i64 0 ∧ i = .int .i64 0 ∧ wr = w) (fun _ _ _ _ => 0)
    case atStart => exact ⟨rfl, rfl, rfl, rfl⟩
    case round =>
      obtain ⟨rfl, rfl, rfl, rfl⟩ := hrel
      go_wp2
      exact bodyPost_ret (v := .tuple #[.slice none 0 0, .bool true]) (by simp [results, Try.results72, go_sem]) rfl HP.out
  · have hpos : 0 < l.length := List.length_pos_iff.2 h0
    have hpos' : (0 : Int) < (l.length : Int) := by omega
    have hie : l.isEmpty = false := by cases l <;> simp_all
    have HI0 := Lib.hid (SpInv.zero l)
    have HBAD := Lib.hid (show ∀ w', rightB l = false → Below w.heap.size w w' → RSplitPost l w (.returned (.tuple #[.slice none 0 0, .bool false])) w' from fun _ h hb => RSplit_bad h hb)
    have HEND : Hid (∀ fr vs v wr, SpInv l fr (l.length + 1) vs → vs.length ≤ 8 → OwnS w.heap.size wr v vs → Below w.heap.size w wr → RSplitPost l w (.returned (.tuple #[v, .bool true])) wr) := Lib.hid fun fr vs v wr hI h8 hO hB => by
      obtain ⟨hr, hls⟩ := hI.done h0 h8
      refine ⟨v, by rw [hr], ?_, hB⟩
      rw [hls]; exact hO.read
    have HP := Lib.hid (fun fr j vs => @SpInv.part l fr j vs h0)
    have HL := Lib.hid (fun fr vs => @SpInv.last l fr vs h0)
    clear h0
    go_enter Try.func72, Try.ntmps72
    go_wp2_with fail
    go_loopw [4, 5, 6] (fun o f i wr => ∃ (fr j : Nat) (vs : List (List UInt8)) (po : Option Addr) (co : Nat), o = .slice po vs.length co ∧ f = .int .i64 (fr : Nat) ∧ i = .int .i64 (j : Nat) ∧ j ≤ l.length + 1 ∧ vs.length ≤ 8 ∧ Hid (SpInv l fr j vs) ∧ Hid (OwnS w.heap.size wr (.slice po vs.length co) vs) ∧ Hid (Below w.heap.size w wr)) (fun _ _ i _ => l.length + 1 - (intOf i).toNat)
    case atStart => exact ⟨0, 0, [], none, 0, rfl, rfl, rfl, by omega, by simp, HI0, Lib.hid (OwnS.nil _ _), Lib.hid (Below.refl _ _)⟩
    case round =>
      clear HI0
      obtain ⟨fr, j, vs, po, co, rfl, rfl, rfl, hj1, hv8, hI, hO, hB⟩ := hrel
      by_cases hj2 : j = l.length + 1
      · subst hj2
        have HE := Lib.hid (HEND.out fr vs _ wr hI.out hv8 hO.out hB.out)
        have hle' : ¬ ((l.length : Int) + 1) ≤ (l.length : Int) := by omega
        clear hI HEND HBAD HP HL
        go_wp2
        exact bodyPost_ret (v := .tuple #[.slice po vs.length co, .bool true]) (by simp [results, Try.results72, go_sem]) rfl HE.out
      have hle' : (j : Int) ≤ (l.length : Int) := by omega
      have hmain : (∃ c, c ≠ 46 ∧ ∃ h : j < l.length, l[j] = c) ∨ (PartDo l fr j vs ((l.take j).drop fr) ∧ ((∃ h : j < l.length, l[j] = 46) ∨ j = l.length)) := by
        by_cases hlt : j < l.length
        · by_cases hc : l[j] = 46
          · exact .inr ⟨HP.out fr j vs hI.out hlt hc, .inl ⟨hlt, hc⟩⟩
          · exact .inl ⟨_, hc, hlt, rfl⟩
        · have : j = l.length := by omega
          subst this
          exact .inr ⟨HL.out fr vs hI.out, .inr rfl⟩
      rcases hmain with ⟨c, hc, hlt, hlj⟩ | ⟨⟨hfj, hsome, hnone⟩, hw⟩
      · have HN := Lib.hid (hI.out.next hlt (by rw [hlj]; exact hc))
        have hsp : j < (⟨l.toArray⟩ : ByteArray).size := by rw [hsz]; exact hlt
        have hch : (⟨l.toArray⟩ : ByteArray)[j]'hsp = c := hlj
        have hc46 : ¬ (c.toNat : Int) = 46 := fun e => hc (by apply UInt8.toNat_inj.1; show c.toNat = 46; omega)
        have hc46' : ((c.toNat : Int) == 46) = false := by simpa using hc46
        have hlt' : (j : Int) < (l.length : Int) := by omega
        clear hI HEND HBAD HP HL hlj
        go_wp2
        exact ⟨⟨fr, j + 1, vs, po, co, rfl, rfl, by go_num, by omega, hv8, HN, hO, hB⟩, by simp [intOf]; omega⟩
      · have hpl : ((l.take j).drop fr).length ≤ 140737488355328 := by simp; omega
        have hG := rIsLabel_t ((l.take j).drop fr) hpl wr
        have hext := ext_l l fr j
        have hfj' : (fr : Int) ≤ (j : Int) := by omega
        have HS := Lib.hid hsome
        have HN := Lib.hid hnone
        have HG := Lib.hid hG
        clear hsome hnone hG hpl HP HL hI
        generalize (l.take j).drop fr = p at *
        have hw' : (∃ hsp : j < (⟨l.toArray⟩ : ByteArray).size, (⟨l.toArray⟩ : ByteArray)[j]'hsp = 46 ∧ (j : Int) < (l.length : Int)) ∨ j = l.length := by
          rcases hw with ⟨hlt, hlj⟩ | h
          · exact .inl ⟨by rw [hsz]; exact hlt, hlj, by omega⟩
          · exact .inr h
        clear hw
        rcases hw' with ⟨hsp, hch, hlt'⟩ | hjl
        all_goals
          try subst hjl
          go_wp2_with fail
          refine HG.out.mono ?_
          rintro e w1 ⟨rfl, rfl⟩
          cases hlb : labB p with
          | false =>
            have HE := Lib.hid (HBAD.out _ (HN.out (.inl hlb)) hB.out)
            clear HBAD HN HS HEND HG hlb
            go_wp2
            exact bodyPost_ret (v := .tuple #[.slice none 0 0, .bool false]) (by simp [results, Try.results72, go_sem]) rfl HE.out
          | true =>
            by_cases h8 : 8 ≤ vs.length
            · have HE := Lib.hid (HBAD.out _ (HN.out (.inr h8)) hB.out)
              have h8' : (8 : Int) ≤ (vs.length : Int) := by omega
              clear HBAD HN HS HEND HG hlb
              go_wp2
              exact bodyPost_ret (v := .tuple #[.slice none 0 0, .bool false]) (by simp [results, Try.results72, go_sem]) rfl HE.out
            · have HI := Lib.hid (HS.out hlb (by omega))
              have h8' : ¬ (8 : Int) ≤ (vs.length : Int) := by omega
              obtain ⟨v', w2, hrun, hown, hb2⟩ := appS_one p hO.out hB.out (by omega) hB.out.size
              obtain ⟨pv, cv, rfl, _, _⟩ := hown.read
              have HOW := Lib.hid hown
              have HB2 := Lib.hid hb2
              have HRUN := Lib.hid hrun
              clear HBAD HN HS HEND HG hlb hrun hown hb2
              have tok : True := trivial
              go_wp2_with (have _t := tok; at_builtin; refine wpList_appS rfl (.tmp 39) (.tmp 44) 64 rfl rfl rfl HRUN.out ?_; clear tok HRUN)
              refine ⟨⟨_, _, vs ++ [p], pv, cv, by simp, by go_num, by go_num, by omega, by simp; omega, HI, HOW, HB2⟩, ?_⟩
              simp [intOf] <;> omega
end Go.Proofs.Ytekoicbjpoeijaa
