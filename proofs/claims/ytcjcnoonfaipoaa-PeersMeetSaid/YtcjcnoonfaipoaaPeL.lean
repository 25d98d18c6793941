/- LAYER 12 (peers): the laws PeersTells, PeersMatch, PeersMeet. -/
import Derived.Test.YtcjcnoonfaipoaaPeK
import Derived.Test.YtcjcnoonfaipoaaQ
import Derived.Test.YtcjcnoonfaipoaaOpen
set_option linter.unusedSimpArgs false
set_option linter.unusedVariables false
namespace Go.Proofs.Ytcjcnoonfaipoaa.W
open Go Go.ChangeShapes Go.WideShapes Go.ChangeAt Go.RowKit
open Go.Proofs.Ytcjcnoonfaipoaa.B (hasV elV bitsV mem mem_and mem_ref cntM cnt T bits_127 cntM_le lsN lsN_len lsN_lt mlN nGe nGt Best)

/-- the best, as a function -/
noncomputable def bestV (V : List Int) : Int := Classical.choose (B.best_ex V)
theorem bestV_is (V : List Int) : Best V (bestV V) := Classical.choose_spec (B.best_ex V)
theorem pmatch_v (c : Int) (ms : List Int) (hms : ms.length = 7) (w : World) :
    Calls Try.prog 21 #[.int .i64 c, .agg (ms.map (Value.int .i64)).toArray] w fun y w' => y = .returned (.int .i64 (bestV (vals c ms))) ∧ Below w.heap.size w w' :=
  (pmatch c ms hms w).mono fun e w' ⟨b, he, hb, hw⟩ => ⟨by rw [he, hb.unique (bestV_is _)], hw⟩
theorem umatch_v (c : Int) (ms : List Int) (hms : ms.length = 7) (w : World) :
    Calls Try.prog 22 #[.int .i64 c, .agg (ms.map (Value.int .i64)).toArray] w fun y w' => y = .returned (.int .i64 (bestV (vals c ms))) ∧ Below w.heap.size w w' :=
  (umatch c ms hms w).mono fun e w' ⟨b, he, hb, hw⟩ => ⟨by rw [he, hb.unique (bestV_is _)], hw⟩
theorem best_543 : bestV (vals 7 [5, 3, 4, 0, 0, 0, 0]) = 4 :=
  (bestV_is _).unique (.inr ⟨by decide +kernel, by decide +kernel, by decide +kernel⟩)
theorem q73 : quoM 7 3 = true := by decide +kernel
theorem q71 : quoM 7 1 = false := by decide +kernel
theorem g715 : chgM 7 15 = 0 := by decide +kernel

set_option maxRecDepth 100000 in
set_option maxHeartbeats 4000000 in
theorem awake12 (w : World) : Calls Try.prog 20 #[] w fun e w' => e = .returned (.bool true) ∧ Below w.heap.size w w' := by
  have H73 := Lib.hid q73
  have H71 := Lib.hid q71
  have H4 := Lib.hid best_543
  have H15 := Lib.hid g715
  go_enter Try.func20, Try.ntmps20
  go_wp2_with (first
    | (go_at_call 13; with_reducible refine (pquorum 7 3 _).mono ?_; rw [H73.out]; rintro e w' ⟨rfl, rfl⟩)
    | (go_at_call 13; with_reducible refine (pquorum 7 1 _).mono ?_; rw [H71.out]; rintro e w' ⟨rfl, rfl⟩)
    | (with_reducible refine build_row (o := ⟨some 7, _, _, _, _, _⟩) rfl _ _ rfl ([5, 3, 4, 0, 0, 0, 0].map (Value.int .i64)) (by kernel_rfl) ?_)
    | (go_at_call 21; refine (pmatch_v 7 [5, 3, 4, 0, 0, 0, 0] rfl _).mono ?_; rw [H4.out]; rintro e w1 ⟨rfl, hb1⟩; have B1 := Lib.hid hb1; clear hb1)
    | (go_at_call 23; refine (pchange 7 15 _).mono ?_; rw [H15.out]; rintro e w' ⟨rfl, rfl⟩))
  go_ret
  exact ⟨rfl, B1.out⟩

set_option maxRecDepth 100000 in
set_option maxHeartbeats 4000000 in
theorem law_PeersTells (c i y n : Int) (w : World) (w0 : (Lit.int .i64 c).wf = true) (w1 : (Lit.int .i64 i).wf = true) (w2 : (Lit.int .i64 y).wf = true) (w3 : (Lit.int .i64 n).wf = true) :
    Calls Try.prog 3 #[.int .i64 c, .int .i64 i, .int .i64 y, .int .i64 n] w fun e w' => e = .returned (.bool true) ∧ Below w.heap.size w w' := by
  clear w0 w1 w2 w3
  obtain ⟨X1, h1⟩ : ∃ X, chkM c = X := ⟨_, rfl⟩
  obtain ⟨X2, h2⟩ : ∃ X, mem c i = X := ⟨_, rfl⟩
  obtain ⟨X3, h3⟩ : ∃ X, cntM c = X := ⟨_, rfl⟩
  obtain ⟨X4, h4⟩ : ∃ X, quoM c y = X := ⟨_, rfl⟩
  obtain ⟨X5, h5⟩ : ∃ X, allM n = X := ⟨_, rfl⟩
  obtain ⟨L, h6⟩ : ∃ X, mlI c = X := ⟨_, rfl⟩
  have hl := mlI_len c
  have hw := mlI_wf c
  have hc7 := cntM_le c
  rw [h6] at hl hw
  rw [h3] at hl hc7
  have H1 := Lib.hid h1
  have H2 := Lib.hid h2
  have H3 := Lib.hid h3
  have H4 := Lib.hid h4
  have H5 := Lib.hid h5
  have H6 := Lib.hid h6
  have HL := Lib.hid hl
  have HW := Lib.hid hw
  clear h1 h2 h3 h4 h5 h6 hl hw
  go_enter Try.func3, Try.ntmps3
  go_wp2_with (first
    | (go_at_call 7; refine (pcheck c _).mono ?_; rw [H1.out]; rintro e w' ⟨rfl, rfl⟩)
    | (go_at_call 8; refine (ucheck c _).mono ?_; rw [H1.out]; rintro e w' ⟨rfl, rfl⟩)
    | (go_at_call 9; refine (phas c i _).mono ?_; rw [H2.out]; rintro e w' ⟨rfl, rfl⟩)
    | (go_at_call 10; refine (uhas c i _).mono ?_; rw [H2.out]; rintro e w' ⟨rfl, rfl⟩)
    | (go_at_call 11; refine (pcount c _).mono ?_; rw [H3.out]; rintro e w' ⟨rfl, rfl⟩)
    | (go_at_call 12; refine (ucount c _).mono ?_; rw [H3.out]; rintro e wa ⟨rfl, hba⟩; have BA := Lib.hid hba; clear hba)
    | (go_at_call 13; refine (pquorum c y _).mono ?_; rw [H4.out]; rintro e w' ⟨rfl, rfl⟩)
    | (go_at_call 14; refine (uquorum c y _).mono ?_; rw [H4.out]; rintro e wb ⟨rfl, hbb⟩; have BB := Lib.hid (BA.out.trans (hbb.mono BA.out.size)); clear hbb)
    | (go_at_call 15; refine (pall n _).mono ?_; rw [H5.out]; rintro e w' ⟨rfl, rfl⟩)
    | (go_at_call 16; refine (uall n _).mono ?_; rw [H5.out]; rintro e w' ⟨rfl, rfl⟩)
    | (go_at_call 18; refine (plist c _).mono ?_; rw [H6.out]; rintro e wc ⟨v, rfl, hoc, hbc⟩; obtain ⟨ac, cc, hvc, -, -, hsc⟩ := hoc.form HW.out; rw [HL.out] at hvc hsc; subst hvc; have SC := Lib.hid hsc; have BC := Lib.hid (BB.out.trans (hbc.mono BB.out.size)); clear hoc hbc hsc)
    | (go_at_call 19; refine (ulist_sl c _).mono ?_; rw [H6.out, H3.out]; rintro e wd ⟨ad, cd, rfl, hsd, hbd⟩; have SD := Lib.hid hsd; have SE := Lib.hid (SC.out.mono hbd); have BD := Lib.hid (BC.out.trans (hbd.mono BC.out.size)); clear hsd hbd)
    | (go_at_call 17; refine (iequal ac ad X3 X3 cc cd L L _ SE.out SD.out (by omega) (by omega)).mono ?_; rintro e we ⟨rfl, hbe⟩; have BE := Lib.hid (BD.out.trans (hbe.mono BD.out.size)); clear hbe)
    | (go_at_call 20; refine (awake12 we).mono ?_; rintro e wf ⟨rfl, hbf⟩; have BF := Lib.hid (BE.out.trans (hbf.mono BE.out.size)); clear hbf))
  all_goals
    go_ret
    exact ⟨by simp, BF.out⟩
end Go.Proofs.Ytcjcnoonfaipoaa.W
