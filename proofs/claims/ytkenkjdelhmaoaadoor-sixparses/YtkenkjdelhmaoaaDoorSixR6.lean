/- The walk of the reference's read of layer 4. No conditions beyond the text's length. -/
import Derived.Test.YtkenkjdelhmaoaaDoorSixR5
namespace Go.Proofs.YtkenkjdelhmaoaaDoor
set_option linter.unusedVariables false
set_option linter.unusedSimpArgs false
open Go.RowKit
theorem mach_part (p : List UInt8) : (∃ v, mach p = some v ∧ parse4 p = ((v : Int), 0) ∧ v < 4294967296) ∨ (mach p = none ∧ (parse4 p).2 = 3) := by
  cases h : mach p with
  | none => exact .inr ⟨rfl, by rw [mach_none h]⟩
  | some v =>
    have h1 := mach_some h
    have h2 := (parse_range p).2
    rw [h1] at h2
    exact .inl ⟨v, rfl, h1, by dsimp only at h2; omega⟩
set_option maxRecDepth 100000 in
set_option maxHeartbeats 4000000 in
theorem read_t (d : Bool) (l : List UInt8) (hl : l.length ≤ 300) (w : World) : Calls Tryd.prog 46 #[.string ⟨l.toArray⟩, .bool d] w (ReadPost (readV d l) w) := by
  have hsz := bs_size l
  by_cases h0 : l = []
  · subst h0
    have hr : readV d [] = some [] := rfl
    rw [hr]
    go_enter Tryd.func46, Tryd.ntmps46
    go_wp2_with fail
    go_loopw [6, 8] (fun o i wr => o = .slice none 0 0 ∧ i = .int .i64 0 ∧ wr = w) (fun _ _ _ => 0)
    case atStart => exact ⟨rfl, rfl, rfl⟩
    case round =>
      obtain ⟨rfl, rfl, rfl⟩ := hrel
      go_wp2
      go_ret2
      exact ⟨⟨_, rfl, OwnU.nil _ _⟩, Below.refl _ _⟩
  · have hpos : 0 < l.length := List.length_pos_iff.2 h0
    have hpos' : (0 : Int) < (l.length : Int) := by omega
    have hrv : readV d l = seqV d (splitC l) := by unfold readV; rw [if_neg h0]
    rw [hrv]
    clear hrv h0
    have HI0 : Hid (RdInv d l 0 0 []) := Lib.hid (.inl ⟨Nat.le_refl _, by omega, by simp, by simp⟩)
    go_enter Tryd.func46, Tryd.ntmps46
    go_wp2_with fail
    go_loopw [6, 7, 8] (fun o f i wr => ∃ (fr j : Nat) (vs : List Nat), f = .int .i64 (fr : Nat) ∧ i = .int .i64 (j : Nat) ∧ j ≤ l.length + 1 ∧ vs.length ≤ j ∧ Hid (RdInv d l fr j vs) ∧ Hid (OwnU w.heap.size wr o vs) ∧ Hid (Below w.heap.size w wr)) (fun _ _ i _ => l.length + 1 - (intOf i).toNat)
    case atStart => exact ⟨0, 0, [], rfl, rfl, by omega, by simp, HI0, Lib.hid (OwnU.nil _ _), Lib.hid (Below.refl _ _)⟩
    case round =>
      clear HI0
      obtain ⟨fr, j, vs, rfl, rfl, hj1, hvj, hI, hO, hB⟩ := hrel
      by_cases hlt : j < l.length
      · have hle' : (j : Int) ≤ (l.length : Int) := by omega
        have hlt' : (j : Int) < (l.length : Int) := by omega
        have hsp : j < (⟨l.toArray⟩ : ByteArray).size := by rw [hsz]; exact hlt
        have hch : (⟨l.toArray⟩ : ByteArray)[j]'hsp = l[j] := rfl
        have hnx := hI.out.next hlt
        have hpt := hI.out.part hlt
        have HNX := Lib.hid hnx
        have HPT := Lib.hid hpt
        clear hnx hpt hI
        generalize l[j] = c at *
        have hcn := c.toNat_lt
        by_cases hc : c = 58
        · subst hc
          obtain ⟨hfj, hsome, hnone⟩ := HPT.out rfl
          have hfj' : (fr : Int) ≤ (j : Int) := by omega
          have hneq : ¬ (j : Int) = (l.length : Int) := by omega
          have hnb : ((j : Int) == (l.length : Int)) = false := by rw [beq_eq_false_iff_ne]; exact hneq
          have hpl : ((l.take j).drop fr).length ≤ 300 := by simp; omega
          have hP := rparse4_t ((l.take j).drop fr) hpl
          have hG := group_t ((l.take j).drop fr) hpl
          rw [← ext_l] at hP hG
          have HS := Lib.hid hsome
          have HN := Lib.hid hnone
          have HP := Lib.hid hP
          have HG := Lib.hid hG
          have HM := Lib.hid (mach_part ((l.take j).drop fr))
          clear hsome hnone hP hG hpl HNX HPT
          generalize (l.take j).drop fr = p at *
          go_wp2_with fail
          refine (HP.out _).mono ?_
          rintro e w1 ⟨rfl, rfl⟩
          rcases HM.out with ⟨av, hm, _, _⟩ | ⟨hm, _⟩
          · cases d
            all_goals
              rw [hm]
              unfold rp
              dsimp only
              clear HP HM
              go_wp2_with fail
              refine (HG.out _).mono ?_
              rintro e w1 ⟨hg, rfl⟩
              clear HG hm
              cases hgv : grpV p with
              | none =>
                rw [hgv] at hg
                obtain ⟨x, rfl⟩ := hg
                have HR := Lib.hid (HN.out hgv)
                clear hgv HN HS
                go_wp2
                go_ret2
                exact ⟨by rw [HR.out]; rfl, hB.out⟩
              | some v =>
                rw [hgv] at hg
                obtain rfl : e = .returned (.tuple #[.int .u16 v, .bool true]) := hg
                have HR := Lib.hid (HS.out v hgv)
                clear hgv HN HS
                have R1 := Row.new wr #[.int .u16 (v : Int)] 41
                have hbn : Below wr.heap.size wr (wr.alloc (.cells #[.int .u16 (v : Int)] 41)) := (Below.refl _ _).alloc (Nat.le_refl _) _
                obtain ⟨v', w2, hrun, hown, hgrow⟩ := appU_run (m := [v]) 76 (hO.out.later hbn) wr.heap.size 1 (fun j x hx => by
                  rcases j with _ | j
                  · cases hx; exact (R1.cell 0).trans rfl
                  · simp at hx) (by simp; omega) (Nat.le_trans hB.out.size hbn.size)
                have hb2 := (below_step hB.out hbn).grown hgrow (Nat.le_trans hB.out.size hbn.size) (fun k hk => ((hO.out.later hbn).block _ hk).1)
                have HOW := Lib.hid hown
                have HB2 := Lib.hid hb2
                clear R1 hbn hgrow hown hb2
                have HRUN := Lib.hid hrun
                clear hrun
                have tok : True := trivial
                go_wp2_with (have _t := tok; at_builtin; refine wpList_appU rfl (.tmp 72) (.tmp 74) 76 rfl rfl rfl HRUN.out ?_; clear tok HRUN)
                exact ⟨⟨j + 1, j + 1, vs ++ [v], by go_num, by go_num, by omega, by simp; omega, HR, HOW, HB2⟩, by simp [intOf]; omega⟩
          all_goals
            rw [hm]
            unfold rp
            dsimp only
            clear HP HM
            go_wp2_with fail
            refine (HG.out _).mono ?_
            rintro e w1 ⟨hg, rfl⟩
            clear HG hm
            cases hgv : grpV p with
            | none =>
              rw [hgv] at hg
              obtain ⟨x, rfl⟩ := hg
              have HR := Lib.hid (HN.out hgv)
              clear hgv HN HS
              go_wp2
              go_ret2
              exact ⟨by rw [HR.out]; rfl, hB.out⟩
            | some v =>
              rw [hgv] at hg
              obtain rfl : e = .returned (.tuple #[.int .u16 v, .bool true]) := hg
              have HR := Lib.hid (HS.out v hgv)
              clear hgv HN HS
              have R1 := Row.new wr #[.int .u16 (v : Int)] 41
              have hbn : Below wr.heap.size wr (wr.alloc (.cells #[.int .u16 (v : Int)] 41)) := (Below.refl _ _).alloc (Nat.le_refl _) _
              obtain ⟨v', w2, hrun, hown, hgrow⟩ := appU_run (m := [v]) 76 (hO.out.later hbn) wr.heap.size 1 (fun j x hx => by
                rcases j with _ | j
                · cases hx; exact (R1.cell 0).trans rfl
                · simp at hx) (by simp; omega) (Nat.le_trans hB.out.size hbn.size)
              have hb2 := (below_step hB.out hbn).grown hgrow (Nat.le_trans hB.out.size hbn.size) (fun k hk => ((hO.out.later hbn).block _ hk).1)
              have HOW := Lib.hid hown
              have HB2 := Lib.hid hb2
              clear R1 hbn hgrow hown hb2
              have HRUN := Lib.hid hrun
              clear hrun
              have tok : True := trivial
              go_wp2_with (have _t := tok; at_builtin; refine wpList_appU rfl (.tmp 72) (.tmp 74) 76 rfl rfl rfl HRUN.out ?_; clear tok HRUN)
              exact ⟨⟨j + 1, j + 1, vs ++ [v], by go_num, by go_num, by omega, by simp; omega, HR, HOW, HB2⟩, by simp [intOf]; omega⟩
        · have e1 : ¬ (c.toNat : Int) = 58 := fun h => hc (UInt8.toNat_inj.1 (by show c.toNat = 58; omega))
          have e2 : ((c.toNat : Int) == 58) = false := by rw [beq_eq_false_iff_ne]; exact e1
          have e3 : ((c.toNat : Int) != 58) = true := by simpa using e1
          have HN := Lib.hid (HNX.out hc)
          clear HNX HPT hc
          go_wp2
          exact ⟨⟨fr, j + 1, vs, rfl, by go_num, by omega, by omega, HN, hO, hB⟩, by simp [intOf]; omega⟩
      · by_cases hend : j = l.length
        · subst hend
          have hle' : (l.length : Int) ≤ (l.length : Int) := by omega
          obtain ⟨hfj, hlast⟩ := hI.out.last
          have hfj' : (fr : Int) ≤ (l.length : Int) := by omega
          have hpl : ((l.take l.length).drop fr).length ≤ 300 := by simp; omega
          have hP := rparse4_t ((l.take l.length).drop fr) hpl
          have hG := group_t ((l.take l.length).drop fr) hpl
          rw [← ext_l] at hP hG
          have HP := Lib.hid hP
          have HG := Lib.hid hG
          have HL := Lib.hid hlast
          have HM := Lib.hid (mach_part ((l.take l.length).drop fr))
          clear hP hG hpl hlast hI
          generalize (l.take l.length).drop fr = p at *
          go_wp2_with fail
          refine (HP.out _).mono ?_
          rintro e w1 ⟨rfl, rfl⟩
          rcases HM.out with ⟨av, hm, hp4, hav⟩ | ⟨hm, hp4⟩
          · cases d
            · have HL2 : Hid (seqV false (splitC l) = ((grpV p).map fun v => [v]).map fun us => vs ++ us) := Lib.hid (by rw [HL.out]; unfold lastV; rw [if_neg (by simp)])
              clear HL hp4
              rw [hm]
              unfold rp
              dsimp only
              clear HP HM
              go_wp2_with fail
              refine (HG.out _).mono ?_
              rintro e w1 ⟨hg, rfl⟩
              clear HG hm
              cases hgv : grpV p with
              | none =>
                rw [hgv] at hg
                obtain ⟨x, rfl⟩ := hg
                have HR := Lib.hid (HL2.out.trans (by first | (rw [hgv]; done) | (rw [hgv]; rfl)))
                clear hgv HL2
                go_wp2
                go_ret2
                exact ⟨by rw [HR.out]; rfl, hB.out⟩
              | some v =>
                rw [hgv] at hg
                obtain rfl : e = .returned (.tuple #[.int .u16 v, .bool true]) := hg
                have HR := Lib.hid (HL2.out.trans (by rw [hgv]; rfl : _ = some (vs ++ [v])))
                clear hgv HL2
                have R1 := Row.new wr #[.int .u16 (v : Int)] 41
                have hbn : Below wr.heap.size wr (wr.alloc (.cells #[.int .u16 (v : Int)] 41)) := (Below.refl _ _).alloc (Nat.le_refl _) _
                obtain ⟨v', w2, hrun, hown, hgrow⟩ := appU_run (m := [v]) 76 (hO.out.later hbn) wr.heap.size 1 (fun j x hx => by
                  rcases j with _ | j
                  · cases hx; exact (R1.cell 0).trans rfl
                  · simp at hx) (by simp; omega) (Nat.le_trans hB.out.size hbn.size)
                have hb2 := (below_step hB.out hbn).grown hgrow (Nat.le_trans hB.out.size hbn.size) (fun k hk => ((hO.out.later hbn).block _ hk).1)
                have HOW := Lib.hid hown
                have HB2 := Lib.hid hb2
                clear R1 hbn hgrow hown hb2
                have HRUN := Lib.hid hrun
                clear hrun
                have tok : True := trivial
                go_wp2_with (have _t := tok; at_builtin; refine wpList_appU rfl (.tmp 72) (.tmp 74) 76 rfl rfl rfl HRUN.out ?_; clear tok HRUN)
                exact ⟨⟨l.length + 1, l.length + 1, vs ++ [v], by go_num, by go_num, by omega, by simp; omega, Lib.hid (.inr ⟨rfl, HR.out⟩), HOW, HB2⟩, by simp [intOf]⟩
            · have HL2 : Hid (seqV true (splitC l) = some (vs ++ [av / 65536, av % 65536])) := Lib.hid (by rw [HL.out]; unfold lastV; rw [hp4, if_pos ⟨rfl, rfl⟩]; simp)
              rw [hm]
              unfold rp
              dsimp only
              clear HL hp4 HP HM HG hm
              have a0 : 0 ≤ (av : Int) := by omega
              have a1 : (av : Int) < 4294967296 := by omega
              have q1 : IntKind.u16.wrap ((av : Int) / 65536) = (av : Int) / 65536 := by simp [IntKind.wrap, IntKind.bits, IntKind.signed]; omega
              have q2 : IntKind.u16.wrap ((av : Int) % 65536) = (av : Int) % 65536 := by simp [IntKind.wrap, IntKind.bits, IntKind.signed]
              have R1 := Row.new wr #[.int .u16 ((av : Int) / 65536), .int .u16 ((av : Int) % 65536)] 41
              have hbn : Below wr.heap.size wr (wr.alloc (.cells #[.int .u16 ((av : Int) / 65536), .int .u16 ((av : Int) % 65536)] 41)) := (Below.refl _ _).alloc (Nat.le_refl _) _
              obtain ⟨v', w2, hrun, hown, hgrow⟩ := appU_run (m := [av / 65536, av % 65536]) 76 (hO.out.later hbn) wr.heap.size 2 (fun j x hx => by
                rcases j with _ | _ | j
                · cases hx; exact (R1.cell 0).trans (congrArg (fun z => some (Value.int .u16 z)) (by omega))
                · cases hx; exact (R1.cell 1).trans (congrArg (fun z => some (Value.int .u16 z)) (by omega))
                · simp at hx) (by simp; omega) (Nat.le_trans hB.out.size hbn.size)
              have hb2 := (below_step hB.out hbn).grown hgrow (Nat.le_trans hB.out.size hbn.size) (fun k hk => ((hO.out.later hbn).block _ hk).1)
              have HOW := Lib.hid hown
              have HB2 := Lib.hid hb2
              clear R1 hbn hgrow hown hb2
              have HRUN := Lib.hid hrun
              clear hrun
              have tok : True := trivial
              go_wp2_with (have _t := tok; at_builtin; refine wpList_appU rfl (.tmp 56) (.tmp 63) 76 rfl rfl rfl HRUN.out ?_; clear tok HRUN)
              go_ret2
              exact ⟨by rw [HL2.out]; exact ⟨_, rfl, HOW.out⟩, HB2.out⟩
          · have HL2 : Hid (seqV d (splitC l) = ((grpV p).map fun v => [v]).map fun us => vs ++ us) := Lib.hid (by rw [HL.out]; unfold lastV; rw [if_neg (by rw [hp4]; simp)])
            clear HL hp4
            rw [hm]
            unfold rp
            dsimp only
            clear HP HM
            go_wp2_with fail
            refine (HG.out _).mono ?_
            rintro e w1 ⟨hg, rfl⟩
            clear HG hm
            cases hgv : grpV p with
            | none =>
              rw [hgv] at hg
              obtain ⟨x, rfl⟩ := hg
              have HR := Lib.hid (HL2.out.trans (by first | (rw [hgv]; done) | (rw [hgv]; rfl)))
              clear hgv HL2
              go_wp2
              go_ret2
              exact ⟨by rw [HR.out]; rfl, hB.out⟩
            | some v =>
              rw [hgv] at hg
              obtain rfl : e = .returned (.tuple #[.int .u16 v, .bool true]) := hg
              have HR := Lib.hid (HL2.out.trans (by rw [hgv]; rfl : _ = some (vs ++ [v])))
              clear hgv HL2
              have R1 := Row.new wr #[.int .u16 (v : Int)] 41
              have hbn : Below wr.heap.size wr (wr.alloc (.cells #[.int .u16 (v : Int)] 41)) := (Below.refl _ _).alloc (Nat.le_refl _) _
              obtain ⟨v', w2, hrun, hown, hgrow⟩ := appU_run (m := [v]) 76 (hO.out.later hbn) wr.heap.size 1 (fun j x hx => by
                rcases j with _ | j
                · cases hx; exact (R1.cell 0).trans rfl
                · simp at hx) (by simp; omega) (Nat.le_trans hB.out.size hbn.size)
              have hb2 := (below_step hB.out hbn).grown hgrow (Nat.le_trans hB.out.size hbn.size) (fun k hk => ((hO.out.later hbn).block _ hk).1)
              have HOW := Lib.hid hown
              have HB2 := Lib.hid hb2
              clear R1 hbn hgrow hown hb2
              have HRUN := Lib.hid hrun
              clear hrun
              have tok : True := trivial
              go_wp2_with (have _t := tok; at_builtin; refine wpList_appU rfl (.tmp 72) (.tmp 74) 76 rfl rfl rfl HRUN.out ?_; clear tok HRUN)
              exact ⟨⟨l.length + 1, l.length + 1, vs ++ [v], by go_num, by go_num, by omega, by simp; omega, Lib.hid (.inr ⟨rfl, HR.out⟩), HOW, HB2⟩, by simp [intOf]⟩
        · have hj2 : j = l.length + 1 := by omega
          have hres : seqV d (splitC l) = some vs := by
            rcases hI.out with ⟨_, h, _⟩ | ⟨_, h⟩
            · omega
            · exact h
          have HR := Lib.hid hres
          have hgt : ¬ (j : Int) ≤ (l.length : Int) := by omega
          have hgt2 : (l.length : Int) < (j : Int) := by omega
          clear hres hI hj2 hend
          go_wp2
          go_ret2
          exact ⟨by rw [HR.out]; exact ⟨_, rfl, hO.out⟩, hB.out⟩
end Go.Proofs.YtkenkjdelhmaoaaDoor
