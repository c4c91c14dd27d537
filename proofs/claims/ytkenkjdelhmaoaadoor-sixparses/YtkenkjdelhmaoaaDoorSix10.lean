/- The walk of sequence. No conditions beyond the text's length. -/
import Derived.Test.YtkenkjdelhmaoaaDoorSix9
namespace Go.Proofs.YtkenkjdelhmaoaaDoor
set_option linter.unusedVariables false
set_option linter.unusedSimpArgs false
open Go.RowKit
set_option maxHeartbeats 4000000 in
set_option maxRecDepth 100000 in
theorem seq_t (d : Bool) (l : List UInt8) (hl : l.length ≤ 4000000000) (w : World) (hE : Env w) : Calls Tryd.prog 44 #[.string ⟨l.toArray⟩, .bool d] w (SeqPost (seqR d l) w) := by
  have hmf : ∀ (fn : Fn) (first cap : Array Value) (w : World), (Instr.makeFunc fn first cap).run Tryd.prog w = .ok (.func fn first cap) w := fun _ _ _ _ => rfl
  by_cases h0 : l = []
  · subst h0
    have hsr : seqR d [] = some [] := by unfold seqR readV; simp
    rw [hsr]
    have HM := Lib.hid hmf
    clear hmf hsr
    go_enter Tryd.func44, Tryd.ntmps44
    go_wp2
    exact bodyPost_ret (v := .tuple #[arr8 (lf []), .int .i64 0, .bool true]) (by simp only [results, Tryd.results44]; simp [go_sem, arr8, lf_nil]) rfl ⟨rfl, (by repeat (first | exact Below.refl _ _ | assumption | (with_reducible refine Below.setCell ?_ ?h _; case h => first | omega | (simp; done) | (simp; omega)) | (with_reducible refine Below.alloc ?_ ?h _; case h => first | omega | (simp; done) | (simp; omega)) | (with_reducible refine Below.drew ?_) | (with_reducible refine Below.trans ?_ (hb4.mono ?h); case h => first | omega | (simp; done) | (simp; omega)) | (with_reducible refine Below.trans ?_ (hb3.mono ?h); case h => first | omega | (simp; done) | (simp; omega)) | (with_reducible refine Below.trans ?_ (hb2.mono ?h); case h => first | omega | (simp; done) | (simp; omega)) | (with_reducible refine Below.trans ?_ (hb.mono ?h); case h => first | omega | (simp; done) | (simp; omega)) | (with_reducible refine Below.trans ?_ (hb0.mono ?h); case h => first | omega | (simp; done) | (simp; omega))))⟩
  · obtain ⟨t, ht⟩ : ∃ t : ByteArray, t = ⟨l.toArray⟩ := ⟨_, rfl⟩
    have hemp : t.toList.isEmpty = false := by
      rw [← decide_eq_emptyBytes]
      exact decide_eq_false (fun h => h0 (by rw [ht] at h; have := congrArg (fun b : ByteArray => b.data.toList) h; simpa using this))
    rw [← ht]
    have HT := Lib.hid ht
    clear ht
    go_enter Tryd.func44, Tryd.ntmps44
    go_wp2_with fail
    have Rd0 : Row (((w.alloc (.cells #[.bool d] 4)).alloc (.cells zero8 42)).alloc (.cells #[.int .i64 0] 3)) w.heap.size #[.bool d] 4 := ((Row.new w _ _).alloc _).alloc _
    have Rg0 : Row (((w.alloc (.cells #[.bool d] 4)).alloc (.cells zero8 42)).alloc (.cells #[.int .i64 0] 3)) (w.heap.size + 1) (cellsV []) 42 := by simpa [cellsV, lf, zero8] using (Row.new (w.alloc (.cells #[.bool d] 4)) zero8 42).alloc (.cells #[.int .i64 0] 3)
    have Rn0 : Row (((w.alloc (.cells #[.bool d] 4)).alloc (.cells zero8 42)).alloc (.cells #[.int .i64 0] 3)) (w.heap.size + 2) #[.int .i64 (([] : List Nat).length : Nat)] 3 := by
      have h := Row.new ((w.alloc (.cells #[.bool d] 4)).alloc (.cells zero8 42)) #[.int .i64 0] 3
      rw [show ((w.alloc (.cells #[.bool d] 4)).alloc (.cells zero8 42)).heap.size = w.heap.size + 2 by simp] at h
      exact h
    have hb0 : Below w.heap.size w (((w.alloc (.cells #[.bool d] 4)).alloc (.cells zero8 42)).alloc (.cells #[.int .i64 0] 3)) := (by repeat (first | exact Below.refl _ _ | assumption | (with_reducible refine Below.setCell ?_ ?h _; case h => first | omega | (simp; done) | (simp; omega)) | (with_reducible refine Below.alloc ?_ ?h _; case h => first | omega | (simp; done) | (simp; omega)) | (with_reducible refine Below.drew ?_) | (with_reducible refine Below.trans ?_ (hb4.mono ?h); case h => first | omega | (simp; done) | (simp; omega)) | (with_reducible refine Below.trans ?_ (hb3.mono ?h); case h => first | omega | (simp; done) | (simp; omega)) | (with_reducible refine Below.trans ?_ (hb2.mono ?h); case h => first | omega | (simp; done) | (simp; omega)) | (with_reducible refine Below.trans ?_ (hb.mono ?h); case h => first | omega | (simp; done) | (simp; omega)) | (with_reducible refine Below.trans ?_ (hb0.mono ?h); case h => first | omega | (simp; done) | (simp; omega))))
    unfold zero8 at Rd0 Rg0 Rn0 hb0
    generalize ((w.alloc (.cells #[.bool d] 4)).alloc (.cells #[.int .u16 0, .int .u16 0, .int .u16 0, .int .u16 0, .int .u16 0, .int .u16 0, .int .u16 0, .int .u16 0] 42)).alloc (.cells #[.int .i64 0] 3) = w0 at *
    go_loopw [0, 8] (fun s m wr => ∃ (b : Bool) (rest : List UInt8) (vs : List Nat), s = .string ⟨rest.toArray⟩ ∧ m = .bool b ∧ rest.length ≤ 4000000000 ∧ vs.length ≤ 8 ∧ Row wr w.heap.size #[.bool d] 4 ∧ Row wr (w.heap.size + 2) #[.int .i64 (vs.length : Nat)] 3 ∧ Row wr (w.heap.size + 1) (cellsV vs) 42 ∧ Below w.heap.size w wr ∧ Hid (if b = true then seqV d (splitC l) = (seqV d (splitC rest)).map fun us => vs ++ us else seqV d (splitC l) = some vs)) (fun s m _ => mLen s m)
    case atStart => exact ⟨true, l, [], by rw [HT.out], rfl, hl, by simp, Rd0, Rn0, Rg0, hb0, Lib.hid (by rw [if_pos rfl]; simp)⟩
    case round =>
      clear Rd0 Rg0 Rn0 hb0 HT hemp
      obtain ⟨b, rest, vs, rfl, rfl, hrl, hv8, Rd, Rn, Rg, hb, hr⟩ := hrel
      have HRd := Lib.hid Rd
      have HRn := Lib.hid Rn
      have HRg := Lib.hid Rg
      have HB := Lib.hid hb
      clear Rd Rn Rg hb
      cases b with
      | true =>
        have hcut := cutb_t rest [58] hrl wr (hE.later HB.out)
        rcases split_cut rest with ⟨p, r, hp, hre, hcu, hsp⟩ | ⟨hp, hcu, hsp⟩
        · rw [hcu] at hcut
          have hplen : p.length ≤ 4000000000 := by rw [hre] at hrl; simp at hrl; omega
          have hrlen : r.length ≤ 4000000000 := by rw [hre] at hrl; simp at hrl; omega
          have hdec : r.length + 1 < rest.length + 1 := by rw [hre]; simp; omega
          have HSM := Lib.hid (step_more hsp hr.out hv8)
          have HC := Lib.hid hcut
          have HDEC := Lib.hid hdec
          clear hcut hcu hre hsp hr hp hdec
          go_wp2_with fail
          refine HC.out.mono ?_
          rintro e w1 ⟨rfl, hb1⟩
          have HRd1 := Lib.hid (HRd.out.later hb1)
          have HRn1 := Lib.hid (HRn.out.later hb1)
          have HRg1 := Lib.hid (HRg.out.later hb1)
          have HB1 := Lib.hid (below_step HB.out hb1)
          clear HRd HRn HRg HB hb1 HC
          go_wp2_with fail
          refine (seq1_t d false p hplen vs hv8 w.heap.size w.heap.size (w.heap.size + 2) (w.heap.size + 1) (by omega) (by omega) (by omega) (by omega) (by omega) w1 (hE.later HB1.out) HRd1.out HRn1.out HRg1.out).mono ?_
          rintro e w2 hP
          have hM := HSM.out
          clear HSM
          cases hq : stepV d false p vs.length with
          | some xs =>
            rw [hq] at hP hM
            obtain ⟨rfl, Rd2, Rn2, Rg2, hb2⟩ := hP
            obtain ⟨h8, hs⟩ := hM
            have HR2 := Lib.hid (And.intro Rd2 (And.intro Rn2 (And.intro Rg2 (HB1.out.trans hb2))))
            have HS2 := Lib.hid hs
            clear Rd2 Rn2 Rg2 hb2 hs HB1 hq
            go_wp2
            exact ⟨⟨true, r, vs ++ xs, rfl, rfl, hrlen, h8, HR2.out.1, HR2.out.2.1, HR2.out.2.2.1, HR2.out.2.2.2, Lib.hid (by rw [if_pos rfl]; exact HS2.out)⟩, by have := HDEC.out; simpa [mLen, bs_size] using this⟩
          | none =>
            rw [hq] at hP hM
            obtain ⟨rfl, Rd2, Rn2, Rg2, hb2⟩ := hP
            have HSR := Lib.hid (seqR_none h0 hM)
            have hb3 := HB1.out.trans hb2
            have c0 := (Rg2.cell 0).trans (show _ = some (Value.int .u16 (lf vs 0)) from rfl)
            have f0 := Rg2.frozen 0
            have c1 := (Rg2.cell 1).trans (show _ = some (Value.int .u16 (lf vs 1)) from rfl)
            have f1 := Rg2.frozen 1
            have c2 := (Rg2.cell 2).trans (show _ = some (Value.int .u16 (lf vs 2)) from rfl)
            have f2 := Rg2.frozen 2
            have c3 := (Rg2.cell 3).trans (show _ = some (Value.int .u16 (lf vs 3)) from rfl)
            have f3 := Rg2.frozen 3
            have c4 := (Rg2.cell 4).trans (show _ = some (Value.int .u16 (lf vs 4)) from rfl)
            have f4 := Rg2.frozen 4
            have c5 := (Rg2.cell 5).trans (show _ = some (Value.int .u16 (lf vs 5)) from rfl)
            have f5 := Rg2.frozen 5
            have c6 := (Rg2.cell 6).trans (show _ = some (Value.int .u16 (lf vs 6)) from rfl)
            have f6 := Rg2.frozen 6
            have c7 := (Rg2.cell 7).trans (show _ = some (Value.int .u16 (lf vs 7)) from rfl)
            have f7 := Rg2.frozen 7
            have n0 := (Rn2.cell 0).trans (show _ = some (Value.int .i64 (vs.length : Nat)) from rfl)
            have nf := Rn2.frozen 0
            have HRg2 := Lib.hid Rg2
            have HRn2 := Lib.hid Rn2
            have HB3 := Lib.hid hb3
            clear Rd2 Rn2 Rg2 hb2 hb3 HB1 hq hM
            go_wp2
            have Q := (Row.set8 HRg2.out (.int .u16 0) (.int .u16 0) (.int .u16 0) (.int .u16 0) (.int .u16 0) (.int .u16 0) (.int .u16 0) (.int .u16 0)).set_far ⟨w.heap.size + 2, 0, none⟩ (.int .i64 0) (by dsimp only; omega)
            have N := (Row.far8 (g := w.heap.size + 1) HRn2.out (by omega) (.int .u16 0) (.int .u16 0) (.int .u16 0) (.int .u16 0) (.int .u16 0) (.int .u16 0) (.int .u16 0) (.int .u16 0)).set 0 (.int .i64 0)
            have hbf := (below8 (g := w.heap.size + 1) HB3.out (by omega) (.int .u16 0) (.int .u16 0) (.int .u16 0) (.int .u16 0) (.int .u16 0) (.int .u16 0) (.int .u16 0) (.int .u16 0)).setCell (p := ⟨w.heap.size + 2, 0, none⟩) (by dsimp only; omega) (.int .i64 0)
            clear c0 f0 c1 f1 c2 f2 c3 f3 c4 f4 c5 f5 c6 f6 c7 f7 n0 nf
            have sc0 := (Q.cell 0).trans (show _ = some (Value.int .u16 0) from rfl)
            have sf0 := Q.frozen 0
            have sc1 := (Q.cell 1).trans (show _ = some (Value.int .u16 0) from rfl)
            have sf1 := Q.frozen 1
            have sc2 := (Q.cell 2).trans (show _ = some (Value.int .u16 0) from rfl)
            have sf2 := Q.frozen 2
            have sc3 := (Q.cell 3).trans (show _ = some (Value.int .u16 0) from rfl)
            have sf3 := Q.frozen 3
            have sc4 := (Q.cell 4).trans (show _ = some (Value.int .u16 0) from rfl)
            have sf4 := Q.frozen 4
            have sc5 := (Q.cell 5).trans (show _ = some (Value.int .u16 0) from rfl)
            have sf5 := Q.frozen 5
            have sc6 := (Q.cell 6).trans (show _ = some (Value.int .u16 0) from rfl)
            have sf6 := Q.frozen 6
            have sc7 := (Q.cell 7).trans (show _ = some (Value.int .u16 0) from rfl)
            have sf7 := Q.frozen 7
            have m0 := (N.cell 0).trans (show _ = some (Value.int .i64 0) from rfl)
            exact bodyPost_ret (v := .tuple #[arr8 (fun _ => 0), .int .i64 0, .bool false]) (by simp only [results, Tryd.results44]; simp [go_sem, sc0, sc1, sc2, sc3, sc4, sc5, sc6, sc7, m0, arr8]) rfl (by rw [HSR.out]; exact ⟨rfl, hbf⟩)
        · rw [hcu] at hcut
          have HSM := Lib.hid (step_last hsp hr.out hv8)
          have HC := Lib.hid hcut
          clear hcut hcu hsp hr hp
          go_wp2_with fail
          refine HC.out.mono ?_
          rintro e w1 ⟨rfl, hb1⟩
          have HRd1 := Lib.hid (HRd.out.later hb1)
          have HRn1 := Lib.hid (HRn.out.later hb1)
          have HRg1 := Lib.hid (HRg.out.later hb1)
          have HB1 := Lib.hid (below_step HB.out hb1)
          clear HRd HRn HRg HB hb1 HC
          go_wp2_with fail
          refine (seq1_t d true rest hrl vs hv8 w.heap.size w.heap.size (w.heap.size + 2) (w.heap.size + 1) (by omega) (by omega) (by omega) (by omega) (by omega) w1 (hE.later HB1.out) HRd1.out HRn1.out HRg1.out).mono ?_
          rintro e w2 hP
          have hM := HSM.out
          clear HSM
          cases hq : stepV d true rest vs.length with
          | some xs =>
            rw [hq] at hP hM
            obtain ⟨rfl, Rd2, Rn2, Rg2, hb2⟩ := hP
            obtain ⟨h8, hs⟩ := hM
            have HR2 := Lib.hid (And.intro Rd2 (And.intro Rn2 (And.intro Rg2 (HB1.out.trans hb2))))
            have HS2 := Lib.hid hs
            clear Rd2 Rn2 Rg2 hb2 hs HB1 hq
            go_wp2
            exact ⟨⟨false, [], vs ++ xs, rfl, rfl, by simp, h8, HR2.out.1, HR2.out.2.1, HR2.out.2.2.1, HR2.out.2.2.2, Lib.hid (by rw [if_neg (by simp)]; exact HS2.out)⟩, by simp [mLen]⟩
          | none =>
            rw [hq] at hP hM
            obtain ⟨rfl, Rd2, Rn2, Rg2, hb2⟩ := hP
            have HSR := Lib.hid (seqR_none h0 hM)
            have hb3 := HB1.out.trans hb2
            have c0 := (Rg2.cell 0).trans (show _ = some (Value.int .u16 (lf vs 0)) from rfl)
            have f0 := Rg2.frozen 0
            have c1 := (Rg2.cell 1).trans (show _ = some (Value.int .u16 (lf vs 1)) from rfl)
            have f1 := Rg2.frozen 1
            have c2 := (Rg2.cell 2).trans (show _ = some (Value.int .u16 (lf vs 2)) from rfl)
            have f2 := Rg2.frozen 2
            have c3 := (Rg2.cell 3).trans (show _ = some (Value.int .u16 (lf vs 3)) from rfl)
            have f3 := Rg2.frozen 3
            have c4 := (Rg2.cell 4).trans (show _ = some (Value.int .u16 (lf vs 4)) from rfl)
            have f4 := Rg2.frozen 4
            have c5 := (Rg2.cell 5).trans (show _ = some (Value.int .u16 (lf vs 5)) from rfl)
            have f5 := Rg2.frozen 5
            have c6 := (Rg2.cell 6).trans (show _ = some (Value.int .u16 (lf vs 6)) from rfl)
            have f6 := Rg2.frozen 6
            have c7 := (Rg2.cell 7).trans (show _ = some (Value.int .u16 (lf vs 7)) from rfl)
            have f7 := Rg2.frozen 7
            have n0 := (Rn2.cell 0).trans (show _ = some (Value.int .i64 (vs.length : Nat)) from rfl)
            have nf := Rn2.frozen 0
            have HRg2 := Lib.hid Rg2
            have HRn2 := Lib.hid Rn2
            have HB3 := Lib.hid hb3
            clear Rd2 Rn2 Rg2 hb2 hb3 HB1 hq hM
            go_wp2
            have Q := (Row.set8 HRg2.out (.int .u16 0) (.int .u16 0) (.int .u16 0) (.int .u16 0) (.int .u16 0) (.int .u16 0) (.int .u16 0) (.int .u16 0)).set_far ⟨w.heap.size + 2, 0, none⟩ (.int .i64 0) (by dsimp only; omega)
            have N := (Row.far8 (g := w.heap.size + 1) HRn2.out (by omega) (.int .u16 0) (.int .u16 0) (.int .u16 0) (.int .u16 0) (.int .u16 0) (.int .u16 0) (.int .u16 0) (.int .u16 0)).set 0 (.int .i64 0)
            have hbf := (below8 (g := w.heap.size + 1) HB3.out (by omega) (.int .u16 0) (.int .u16 0) (.int .u16 0) (.int .u16 0) (.int .u16 0) (.int .u16 0) (.int .u16 0) (.int .u16 0)).setCell (p := ⟨w.heap.size + 2, 0, none⟩) (by dsimp only; omega) (.int .i64 0)
            clear c0 f0 c1 f1 c2 f2 c3 f3 c4 f4 c5 f5 c6 f6 c7 f7 n0 nf
            have sc0 := (Q.cell 0).trans (show _ = some (Value.int .u16 0) from rfl)
            have sf0 := Q.frozen 0
            have sc1 := (Q.cell 1).trans (show _ = some (Value.int .u16 0) from rfl)
            have sf1 := Q.frozen 1
            have sc2 := (Q.cell 2).trans (show _ = some (Value.int .u16 0) from rfl)
            have sf2 := Q.frozen 2
            have sc3 := (Q.cell 3).trans (show _ = some (Value.int .u16 0) from rfl)
            have sf3 := Q.frozen 3
            have sc4 := (Q.cell 4).trans (show _ = some (Value.int .u16 0) from rfl)
            have sf4 := Q.frozen 4
            have sc5 := (Q.cell 5).trans (show _ = some (Value.int .u16 0) from rfl)
            have sf5 := Q.frozen 5
            have sc6 := (Q.cell 6).trans (show _ = some (Value.int .u16 0) from rfl)
            have sf6 := Q.frozen 6
            have sc7 := (Q.cell 7).trans (show _ = some (Value.int .u16 0) from rfl)
            have sf7 := Q.frozen 7
            have m0 := (N.cell 0).trans (show _ = some (Value.int .i64 0) from rfl)
            exact bodyPost_ret (v := .tuple #[arr8 (fun _ => 0), .int .i64 0, .bool false]) (by simp only [results, Tryd.results44]; simp [go_sem, sc0, sc1, sc2, sc3, sc4, sc5, sc6, sc7, m0, arr8]) rfl (by rw [HSR.out]; exact ⟨rfl, hbf⟩)
      | false =>
        have hs : seqV d (splitC l) = some vs := by have := hr.out; rwa [if_neg (by simp)] at this
        have HSR := Lib.hid (seqR_some h0 hs hv8)
        clear hs hr
        have Rg2 := HRg.out
        have Rn2 := HRn.out
        have c0 := (Rg2.cell 0).trans (show _ = some (Value.int .u16 (lf vs 0)) from rfl)
        have f0 := Rg2.frozen 0
        have c1 := (Rg2.cell 1).trans (show _ = some (Value.int .u16 (lf vs 1)) from rfl)
        have f1 := Rg2.frozen 1
        have c2 := (Rg2.cell 2).trans (show _ = some (Value.int .u16 (lf vs 2)) from rfl)
        have f2 := Rg2.frozen 2
        have c3 := (Rg2.cell 3).trans (show _ = some (Value.int .u16 (lf vs 3)) from rfl)
        have f3 := Rg2.frozen 3
        have c4 := (Rg2.cell 4).trans (show _ = some (Value.int .u16 (lf vs 4)) from rfl)
        have f4 := Rg2.frozen 4
        have c5 := (Rg2.cell 5).trans (show _ = some (Value.int .u16 (lf vs 5)) from rfl)
        have f5 := Rg2.frozen 5
        have c6 := (Rg2.cell 6).trans (show _ = some (Value.int .u16 (lf vs 6)) from rfl)
        have f6 := Rg2.frozen 6
        have c7 := (Rg2.cell 7).trans (show _ = some (Value.int .u16 (lf vs 7)) from rfl)
        have f7 := Rg2.frozen 7
        have n0 := (Rn2.cell 0).trans (show _ = some (Value.int .i64 (vs.length : Nat)) from rfl)
        have nf := Rn2.frozen 0
        clear Rg2 Rn2
        go_wp2_with fail
        go_region
        go_wp2
        have Q := ((Row.set8 HRg.out (.int .u16 (lf vs 0)) (.int .u16 (lf vs 1)) (.int .u16 (lf vs 2)) (.int .u16 (lf vs 3)) (.int .u16 (lf vs 4)) (.int .u16 (lf vs 5)) (.int .u16 (lf vs 6)) (.int .u16 (lf vs 7))).set_far ⟨w.heap.size + 2, 0, none⟩ (.int .i64 (vs.length : Nat)) (by dsimp only; omega)).drew
        have N := ((Row.far8 (g := w.heap.size + 1) HRn.out (by omega) (.int .u16 (lf vs 0)) (.int .u16 (lf vs 1)) (.int .u16 (lf vs 2)) (.int .u16 (lf vs 3)) (.int .u16 (lf vs 4)) (.int .u16 (lf vs 5)) (.int .u16 (lf vs 6)) (.int .u16 (lf vs 7))).set 0 (.int .i64 (vs.length : Nat))).drew
        have hbf := ((below8 (g := w.heap.size + 1) HB.out (by omega) (.int .u16 (lf vs 0)) (.int .u16 (lf vs 1)) (.int .u16 (lf vs 2)) (.int .u16 (lf vs 3)) (.int .u16 (lf vs 4)) (.int .u16 (lf vs 5)) (.int .u16 (lf vs 6)) (.int .u16 (lf vs 7))).setCell (p := ⟨w.heap.size + 2, 0, none⟩) (by dsimp only; omega) (.int .i64 (vs.length : Nat))).drew
        clear c0 f0 c1 f1 c2 f2 c3 f3 c4 f4 c5 f5 c6 f6 c7 f7 n0 nf
        have sc0 := (Q.cell 0).trans (show _ = some (Value.int .u16 (lf vs 0)) from rfl)
        have sf0 := Q.frozen 0
        have sc1 := (Q.cell 1).trans (show _ = some (Value.int .u16 (lf vs 1)) from rfl)
        have sf1 := Q.frozen 1
        have sc2 := (Q.cell 2).trans (show _ = some (Value.int .u16 (lf vs 2)) from rfl)
        have sf2 := Q.frozen 2
        have sc3 := (Q.cell 3).trans (show _ = some (Value.int .u16 (lf vs 3)) from rfl)
        have sf3 := Q.frozen 3
        have sc4 := (Q.cell 4).trans (show _ = some (Value.int .u16 (lf vs 4)) from rfl)
        have sf4 := Q.frozen 4
        have sc5 := (Q.cell 5).trans (show _ = some (Value.int .u16 (lf vs 5)) from rfl)
        have sf5 := Q.frozen 5
        have sc6 := (Q.cell 6).trans (show _ = some (Value.int .u16 (lf vs 6)) from rfl)
        have sf6 := Q.frozen 6
        have sc7 := (Q.cell 7).trans (show _ = some (Value.int .u16 (lf vs 7)) from rfl)
        have sf7 := Q.frozen 7
        have m0 := (N.cell 0).trans (show _ = some (Value.int .i64 (vs.length : Nat)) from rfl)
        exact bodyPost_ret (v := .tuple #[arr8 (lf vs), .int .i64 (vs.length : Nat), .bool true]) (by simp only [results, Tryd.results44]; simp [go_sem, sc0, sc1, sc2, sc3, sc4, sc5, sc6, sc7, m0, arr8]) rfl (by rw [HSR.out]; exact ⟨rfl, hbf⟩)
end Go.Proofs.YtkenkjdelhmaoaaDoor
