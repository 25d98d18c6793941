/- LAYER 23 (command): the law CommandBack. -/
import Derived.Test.YtmacjpgeamlmhaaCmH
import Derived.Test.YtmacjpgeamlmhaaCmS
import Derived.Test.YtmacjpgeamlmhaaCmW
import Derived.Test.YtmacjpgeamlmhaaCmI
import Derived.Test.YtmacjpgeamlmhaaLg
set_option linter.unusedSimpArgs false
set_option linter.unusedVariables false
namespace Go.Proofs.Ytmacjpgeamlmhaa.W
open Go Go.ChangeShapes Go.WideShapes Go.ChangeAt Go.RowKit
open Go.Proofs.Ytmacjpgeamlmhaa.P (enc dec)
open Go.Proofs.Ytmacjpgeamlmhaa.S

theorem sameB_refl (m : Cm) : sameB m m true = true := by unfold sameB; simp [same_refl]
set_option maxRecDepth 100000 in
set_option maxHeartbeats 32000000 in
theorem law_CommandBack (x : CmX) (ba : Option Addr) (bm bc : Nat) (zb : List Int) (w : World) (h : x.fit w) (hbz : IsRow .u8 w ba bm bc zb) : Calls Try.prog 4 #[x.val, .slice ba bm bc] w fun e w' => e = .returned (.bool true) ∧ Below w.heap.size w w' := by
  have hb := Rd.of_row hbz
  obtain ⟨lb, hlb⟩ : ∃ l, ((zb.take bm).map fun n => UInt8.ofNat n.toNat) = l := ⟨_, rfl⟩
  rw [hlb] at hb
  clear hlb hbz
  have HA := Lib.hid (fun w => awake23 w)
  have HF := Lib.hid (fun w' (hb : Below w.heap.size w w') => few23 x w' (h.mono hb))
  obtain ⟨F, hF⟩ : ∃ F, fewCm x.m = F := ⟨_, rfl⟩
  rw [hF] at HF
  have hmx := hb.hmax
  have hle := hb.hle
  have HB := Lib.hid hb
  have CZ := Lib.hid cm_size
  have CZZ := Lib.hid cm_zero
  have hVF := h.V.hfit
  have hdc : x.m.ok = true → decCm (codeCm x.m) = (x.m, 0) := fun e => dec_code x.m e hVF
  have HE := Lib.hid (fun w' (hb : Below w.heap.size w w') => cmencode x w' (h.mono hb))
  have HS := Lib.hid (fun (Y : CmX) w' (hy : Y.fit w') (hm : Y.m = x.m) (hb : Below w.heap.size w w') => (by have q := cmsame Y x true w' hy (h.mono hb) (by rw [hm]; simp); rw [hm, sameB_refl] at q; exact q : Calls Try.prog 14 #[.agg Y.cells.toArray, .agg x.cells.toArray] w' fun e w'' => e = .returned (.bool true) ∧ Below w'.heap.size w' w''))
  have HD2 := Lib.hid (fun (hbm : bm ≤ 2000) w' (hb' : Below w.heap.size w w') => cmdecode ba bm bc lb w' (hb.mono hb') (by omega))
  have hcd := code_dec lb
  obtain ⟨MB, eb, hdb⟩ : ∃ a b, decCm lb = (a, b) := ⟨_, _, rfl⟩
  rw [hdb] at hcd
  simp only [hdb] at HD2
  dsimp only at hcd
  obtain ⟨ok, hok⟩ : ∃ b, x.m.ok = b := ⟨_, rfl⟩
  obtain ⟨C, hC⟩ : ∃ C, codeCm x.m = C := ⟨_, rfl⟩
  have herr : x.m.err = if ok then 0 else 1 := by unfold Cm.err; rw [hok]
  rw [hC, hok] at hdc
  simp only [hok, hC, herr] at HE
  obtain ⟨M, hM⟩ : ∃ M, x.m = M := ⟨_, rfl⟩
  simp only [hM] at HS hdc
  have HDC := Lib.hid hdc
  have HCD := Lib.hid hcd
  obtain ⟨⟨cl, sq, kd, id, ep, V, sp, nm, nu, by1, ti, PL⟩, va, vn, vc, pa, pn, pc⟩ := x
  clear h hb hF hVF hdc hcd hdb hok hC herr hM
  cases F
  case false =>
    go_enter Try.func4, Try.ntmps4
    go_wp2_with (first
      | ((with_reducible refine box_row (o := ⟨some 2, _, _, _, _, _⟩) rfl _ _ rfl (cmC cl sq kd id ep va vn vc sp nm nu by1 ti pa pn pc) rfl ?_); intro w1 hr hb hz; have X1 := Lib.hid hr; have B1 := Lib.hid hb; clear hr hb hz)
      | ((with_reducible refine load_row (o := ⟨some 13, _, _, _, _, _⟩) rfl _ _ rfl w.heap.size ?_ _ (cmC cl sq kd id ep va vn vc sp nm nu by1 ti pa pn pc) _ X1.out Try.underlying25 rfl ?_ ?_); (focus go_simp); (focus (exact CZ.out)))
      | (go_at_call 7; (with_reducible refine (HF.out w1 B1.out).mono ?_); rintro z w2 ⟨rfl, hb⟩; have X2 := Lib.hid (X1.out.below hb X1.out.lt); have B2 := Lib.hid (B1.out.trans (hb.mono B1.out.size)); clear hb)
      | (go_at_call 8; (with_reducible refine (HA.out w2).mono ?_); rintro z w30 ⟨rfl, hb⟩; have B30 := Lib.hid (B2.out.trans (hb.mono B2.out.size)); clear hb))
    go_ret
    exact ⟨rfl, B30.out⟩
  by_cases hbm : bm ≤ 2000
  rotate_left
  · have g1 : (2000 : Int) < (bm : Int) := by omega
    go_enter Try.func4, Try.ntmps4
    go_wp2_with (first
      | ((with_reducible refine box_row (o := ⟨some 2, _, _, _, _, _⟩) rfl _ _ rfl (cmC cl sq kd id ep va vn vc sp nm nu by1 ti pa pn pc) rfl ?_); intro w1 hr hb hz; have X1 := Lib.hid hr; have B1 := Lib.hid hb; clear hr hb hz)
      | ((with_reducible refine load_row (o := ⟨some 13, _, _, _, _, _⟩) rfl _ _ rfl w.heap.size ?_ _ (cmC cl sq kd id ep va vn vc sp nm nu by1 ti pa pn pc) _ X1.out Try.underlying25 rfl ?_ ?_); (focus go_simp); (focus (exact CZ.out)))
      | (go_at_call 7; (with_reducible refine (HF.out w1 B1.out).mono ?_); rintro z w2 ⟨rfl, hb⟩; have X2 := Lib.hid (X1.out.below hb X1.out.lt); have B2 := Lib.hid (B1.out.trans (hb.mono B1.out.size)); clear hb)
      | (go_at_call 8; (with_reducible refine (HA.out w2).mono ?_); rintro z w30 ⟨rfl, hb⟩; have B30 := Lib.hid (B2.out.trans (hb.mono B2.out.size)); clear hb))
    go_ret
    exact ⟨rfl, B30.out⟩
  have g1 : ¬ (2000 : Int) < (bm : Int) := by omega
  have HD3 := Lib.hid (HD2.out hbm)
  cases ok
  case false =>
    have HE2 := Lib.hid (fun w' (hb : Below w.heap.size w w') => show Calls Try.prog 9 #[.agg (cmC cl sq kd id ep va vn vc sp nm nu by1 ti pa pn pc).toArray] w' fun z w'' => ∃ y m d, z = .returned (.tuple #[.slice y m d, .int .i64 1]) ∧ Rd w'' y m d [] ∧ m ≤ 3000 ∧ Below w'.heap.size w' w'' from HE.out w' hb)
    by_cases hdok : eb = 0
    · subst hdok
      obtain ⟨hk, hcode⟩ := HCD.out rfl
      have HE3 := Lib.hid (fun (Z : CmX) w' (hz : Z.fit w') (hm : Z.m = MB) => (by
        refine (cmencode Z w' hz).mono ?_
        rintro z w'' ⟨y, m, d, rfl, hr, -, hb⟩
        rw [hm, hk, if_pos rfl, hcode] at hr
        have hmm : bm = m := by rw [← hr.hlen, HB.out.hlen]
        subst hmm
        exact ⟨y, d, by rw [hm]; unfold Cm.err; rw [hk]; rfl, hr, hb⟩ : Calls Try.prog 9 #[.agg Z.cells.toArray] w' fun z w'' => ∃ y d, z = .returned (.tuple #[.slice y bm d, .int .i64 0]) ∧ Rd w'' y bm d lb ∧ Below w'.heap.size w' w''))
      clear hk hcode
      go_enter Try.func4, Try.ntmps4
      go_wp2_with (first
        | ((with_reducible refine box_row (o := ⟨some 2, _, _, _, _, _⟩) rfl _ _ rfl (cmC cl sq kd id ep va vn vc sp nm nu by1 ti pa pn pc) rfl ?_); intro w1 hr hb hz; have X1 := Lib.hid hr; have B1 := Lib.hid hb; clear hr hb hz)
        | ((with_reducible refine load_row (o := ⟨some 13, _, _, _, _, _⟩) rfl _ _ rfl w.heap.size ?_ _ (cmC cl sq kd id ep va vn vc sp nm nu by1 ti pa pn pc) _ X1.out Try.underlying25 rfl ?_ ?_); (focus go_simp); (focus (exact CZ.out)))
        | (go_at_call 7; (with_reducible refine (HF.out w1 B1.out).mono ?_); rintro z w2 ⟨rfl, hb⟩; have X2 := Lib.hid (X1.out.below hb X1.out.lt); have B2 := Lib.hid (B1.out.trans (hb.mono B1.out.size)); clear hb)
        | ((with_reducible refine load_row (o := ⟨some 23, _, _, _, _, _⟩) rfl _ _ rfl w.heap.size ?_ _ (cmC cl sq kd id ep va vn vc sp nm nu by1 ti pa pn pc) _ X2.out Try.underlying25 rfl ?_ ?_); (focus go_simp); (focus (exact CZ.out)))
        | (go_at_call 9; (with_reducible refine (HE2.out w2 B2.out).mono ?_); rintro z w3 ⟨y3, m3, d3, rfl, hr, hm3, hb⟩; have R3 := Lib.hid hr; have L3 := Lib.hid hm3; have X3 := Lib.hid (X2.out.below hb X2.out.lt); have B3 := Lib.hid (B2.out.trans (hb.mono B2.out.size)); clear hr hm3 hb)
        | (go_at_call 16; (with_reducible refine (HD3.out w3 B3.out).mono ?_); rintro z w10 ⟨Z, rfl, hz1, hf, hb⟩; have Z10 := Lib.hid hf; have ZM := Lib.hid hz1; have B10 := Lib.hid (B3.out.trans (hb.mono B3.out.size)); clear hz1 hf hb)
        | ((with_reducible refine alloc_row (o := ⟨some 9, _, _, _, _, _⟩) rfl _ rfl _ CZZ.out ?_); intro w11 hr hb hz; have T11 := Lib.hid hr; have V11 := Lib.hid hb; have B11 := Lib.hid (B10.out.trans (hb.mono B10.out.size)); clear hr hb hz)
        | ((with_reducible refine store_row (o := ⟨none, _, _, _, _, _⟩) rfl _ (.tmp 9) _ rfl w10.heap.size Z.cells ?_ ?_ 25 _ T11.out ?_ ?_ ?_ ?_); (focus go_simp); (focus (first | (go_simp; done) | (go_simp; rfl))); (focus (exact CZ.out)); (focus rfl); (focus (exact cm_one _ _ _ _ _ _ _ _ _ _ _ _ _ _ _ _)); intro w12 hr hu; have T12 := Lib.hid hr; have Z12 := Lib.hid (Z10.out.mono (V11.out.trans (hu.below (Nat.le_refl _)))); have B12 := Lib.hid (B11.out.trans (hu.below B10.out.size)); clear hr hu)
        | ((with_reducible refine load_row (o := ⟨some 50, _, _, _, _, _⟩) rfl _ _ rfl w10.heap.size ?_ _ Z.cells _ T12.out Try.underlying25 rfl ?_ ?_); (focus go_simp); (focus (exact CZ.out)))
        | (go_at_call 9; (with_reducible refine (HE3.out Z w12 Z12.out ZM.out).mono ?_); rintro z w13 ⟨y13, d13, rfl, hr, hb⟩; have R13 := Lib.hid hr; have B13 := Lib.hid (B12.out.trans (hb.mono B12.out.size)); clear hr hb)
        | (go_at_call 11; (with_reducible refine (sequal y13 ba bm bm d13 bc lb lb w13 R13.out (HB.out.mono B13.out)).mono ?_); rw [decide_eq_true rfl]; rintro z w14 ⟨rfl, hq⟩; have B14 := Lib.hid (B13.out.trans (hq.below _)); clear hq)
        | (go_at_call 8; (with_reducible refine (HA.out w14).mono ?_); rintro z w30 ⟨rfl, hb⟩; have B30 := Lib.hid (B14.out.trans (hb.mono B14.out.size)); clear hb))
      go_ret
      exact ⟨rfl, B30.out⟩
    · have q1 : (eb == 0) = false := by simpa using hdok
      have q2 : (eb != 0) = true := by simpa using hdok
      go_enter Try.func4, Try.ntmps4
      go_wp2_with (first
        | ((with_reducible refine box_row (o := ⟨some 2, _, _, _, _, _⟩) rfl _ _ rfl (cmC cl sq kd id ep va vn vc sp nm nu by1 ti pa pn pc) rfl ?_); intro w1 hr hb hz; have X1 := Lib.hid hr; have B1 := Lib.hid hb; clear hr hb hz)
        | ((with_reducible refine load_row (o := ⟨some 13, _, _, _, _, _⟩) rfl _ _ rfl w.heap.size ?_ _ (cmC cl sq kd id ep va vn vc sp nm nu by1 ti pa pn pc) _ X1.out Try.underlying25 rfl ?_ ?_); (focus go_simp); (focus (exact CZ.out)))
        | (go_at_call 7; (with_reducible refine (HF.out w1 B1.out).mono ?_); rintro z w2 ⟨rfl, hb⟩; have X2 := Lib.hid (X1.out.below hb X1.out.lt); have B2 := Lib.hid (B1.out.trans (hb.mono B1.out.size)); clear hb)
        | ((with_reducible refine load_row (o := ⟨some 23, _, _, _, _, _⟩) rfl _ _ rfl w.heap.size ?_ _ (cmC cl sq kd id ep va vn vc sp nm nu by1 ti pa pn pc) _ X2.out Try.underlying25 rfl ?_ ?_); (focus go_simp); (focus (exact CZ.out)))
        | (go_at_call 9; (with_reducible refine (HE2.out w2 B2.out).mono ?_); rintro z w3 ⟨y3, m3, d3, rfl, hr, hm3, hb⟩; have R3 := Lib.hid hr; have L3 := Lib.hid hm3; have X3 := Lib.hid (X2.out.below hb X2.out.lt); have B3 := Lib.hid (B2.out.trans (hb.mono B2.out.size)); clear hr hm3 hb)
        | (go_at_call 16; (with_reducible refine (HD3.out w3 B3.out).mono ?_); rintro z w10 ⟨Z, rfl, hz1, hf, hb⟩; have Z10 := Lib.hid hf; have ZM := Lib.hid hz1; have B10 := Lib.hid (B3.out.trans (hb.mono B3.out.size)); clear hz1 hf hb)
        | ((with_reducible refine alloc_row (o := ⟨some 9, _, _, _, _, _⟩) rfl _ rfl _ CZZ.out ?_); intro w11 hr hb hz; have T11 := Lib.hid hr; have V11 := Lib.hid hb; have B11 := Lib.hid (B10.out.trans (hb.mono B10.out.size)); clear hr hb hz)
        | ((with_reducible refine store_row (o := ⟨none, _, _, _, _, _⟩) rfl _ (.tmp 9) _ rfl w10.heap.size Z.cells ?_ ?_ 25 _ T11.out ?_ ?_ ?_ ?_); (focus go_simp); (focus (first | (go_simp; done) | (go_simp; rfl))); (focus (exact CZ.out)); (focus rfl); (focus (exact cm_one _ _ _ _ _ _ _ _ _ _ _ _ _ _ _ _)); intro w12 hr hu; have T12 := Lib.hid hr; have Z12 := Lib.hid (Z10.out.mono (V11.out.trans (hu.below (Nat.le_refl _)))); have B12 := Lib.hid (B11.out.trans (hu.below B10.out.size)); clear hr hu)
        | (go_at_call 8; (with_reducible refine (HA.out w12).mono ?_); rintro z w30 ⟨rfl, hb⟩; have B30 := Lib.hid (B12.out.trans (hb.mono B12.out.size)); clear hb))
      go_ret
      exact ⟨rfl, B30.out⟩
  case true =>
    have HE2 := Lib.hid (fun w' (hb : Below w.heap.size w w') => show Calls Try.prog 9 #[.agg (cmC cl sq kd id ep va vn vc sp nm nu by1 ti pa pn pc).toArray] w' fun z w'' => ∃ y m d, z = .returned (.tuple #[.slice y m d, .int .i64 0]) ∧ Rd w'' y m d C ∧ m ≤ 3000 ∧ Below w'.heap.size w' w'' from HE.out w' hb)
    have HD1 := Lib.hid (fun y m d w' (hr : Rd w' y m d C) (hm : m ≤ 3000) => (by have q := cmdecode y m d C w' hr (by omega); rw [HDC.out rfl] at q; exact q : Calls Try.prog 16 #[.slice y m d] w' fun x w'' => ∃ y : CmX, x = .returned (.tuple #[.agg y.cells.toArray, .int .i64 0]) ∧ y.m = M ∧ y.fit w'' ∧ Below w'.heap.size w' w''))
    by_cases hdok : eb = 0
    · subst hdok
      obtain ⟨hk, hcode⟩ := HCD.out rfl
      have HE3 := Lib.hid (fun (Z : CmX) w' (hz : Z.fit w') (hm : Z.m = MB) => (by
        refine (cmencode Z w' hz).mono ?_
        rintro z w'' ⟨y, m, d, rfl, hr, -, hb⟩
        rw [hm, hk, if_pos rfl, hcode] at hr
        have hmm : bm = m := by rw [← hr.hlen, HB.out.hlen]
        subst hmm
        exact ⟨y, d, by rw [hm]; unfold Cm.err; rw [hk]; rfl, hr, hb⟩ : Calls Try.prog 9 #[.agg Z.cells.toArray] w' fun z w'' => ∃ y d, z = .returned (.tuple #[.slice y bm d, .int .i64 0]) ∧ Rd w'' y bm d lb ∧ Below w'.heap.size w' w''))
      clear hk hcode
      go_enter Try.func4, Try.ntmps4
      go_wp2_with (first
        | ((with_reducible refine box_row (o := ⟨some 2, _, _, _, _, _⟩) rfl _ _ rfl (cmC cl sq kd id ep va vn vc sp nm nu by1 ti pa pn pc) rfl ?_); intro w1 hr hb hz; have X1 := Lib.hid hr; have B1 := Lib.hid hb; clear hr hb hz)
        | ((with_reducible refine load_row (o := ⟨some 13, _, _, _, _, _⟩) rfl _ _ rfl w.heap.size ?_ _ (cmC cl sq kd id ep va vn vc sp nm nu by1 ti pa pn pc) _ X1.out Try.underlying25 rfl ?_ ?_); (focus go_simp); (focus (exact CZ.out)))
        | (go_at_call 7; (with_reducible refine (HF.out w1 B1.out).mono ?_); rintro z w2 ⟨rfl, hb⟩; have X2 := Lib.hid (X1.out.below hb X1.out.lt); have B2 := Lib.hid (B1.out.trans (hb.mono B1.out.size)); clear hb)
        | ((with_reducible refine load_row (o := ⟨some 23, _, _, _, _, _⟩) rfl _ _ rfl w.heap.size ?_ _ (cmC cl sq kd id ep va vn vc sp nm nu by1 ti pa pn pc) _ X2.out Try.underlying25 rfl ?_ ?_); (focus go_simp); (focus (exact CZ.out)))
        | (go_at_call 9; (with_reducible refine (HE2.out w2 B2.out).mono ?_); rintro z w3 ⟨y3, m3, d3, rfl, hr, hm3, hb⟩; have R3 := Lib.hid hr; have L3 := Lib.hid hm3; have X3 := Lib.hid (X2.out.below hb X2.out.lt); have B3 := Lib.hid (B2.out.trans (hb.mono B2.out.size)); clear hr hm3 hb)
        | (go_at_call 16; (with_reducible refine (HD1.out y3 m3 d3 w3 R3.out L3.out).mono ?_); rintro z w4 ⟨Y, rfl, hy, hf, hb⟩; have Y4 := Lib.hid hf; have YM := Lib.hid hy; have X4 := Lib.hid (X3.out.below hb X3.out.lt); have B4 := Lib.hid (B3.out.trans (hb.mono B3.out.size)); clear hy hf hb)
        | ((with_reducible refine alloc_row (o := ⟨some 7, _, _, _, _, _⟩) rfl _ rfl _ CZZ.out ?_); intro w5 hr hb hz; have T5 := Lib.hid hr; have Y5 := Lib.hid hb; have X5 := Lib.hid (X4.out.below hb X4.out.lt); have B5 := Lib.hid (B4.out.trans (hb.mono B4.out.size)); have XT := Lib.hid (Nat.ne_of_lt X4.out.lt); clear hr hb hz)
        | ((with_reducible refine store_row (o := ⟨none, _, _, _, _, _⟩) rfl _ (.tmp 7) _ rfl w4.heap.size Y.cells ?_ ?_ 25 _ T5.out ?_ ?_ ?_ ?_); (focus go_simp); (focus (first | (go_simp; done) | (go_simp; rfl))); (focus (exact CZ.out)); (focus rfl); (focus (exact cm_one _ _ _ _ _ _ _ _ _ _ _ _ _ _ _ _)); intro w6 hr hu; have T6 := Lib.hid hr; have X6 := Lib.hid (X5.out.upd hu XT.out); have Y6 := Lib.hid (Y4.out.mono (Y5.out.trans (hu.below (Nat.le_refl _)))); have B6 := Lib.hid (B5.out.trans (hu.below B4.out.size)); clear hr hu)
        | ((with_reducible refine load_rowg (o := ⟨some 37, _, _, _, _, _⟩) 2 false 36 rfl _ _ rfl w4.heap.size _ (Y.cells) _ T6.out Try.underlying25 rfl ?_ ?_ ?_ ?_ ?_); (focus rfl); (focus (first | (go_simp; done) | (go_simp; rfl))); (focus go_simp); (focus (exact CZ.out)))
        | ((with_reducible refine load_rowg (o := ⟨some 38, _, _, _, _, _⟩) 2 false 36 rfl _ _ rfl w.heap.size _ (cmC cl sq kd id ep va vn vc sp nm nu by1 ti pa pn pc) _ X6.out Try.underlying25 rfl ?_ ?_ ?_ ?_ ?_); (focus rfl); (focus (first | (go_simp; done) | (go_simp; rfl))); (focus go_simp); (focus (exact CZ.out)))
        | (go_at_call 14; (with_reducible refine (HS.out Y w6 Y6.out YM.out B6.out).mono ?_); rintro z w7 ⟨rfl, hb⟩; have B7 := Lib.hid (B6.out.trans (hb.mono B6.out.size)); clear hb)
        | (go_at_call 16; (with_reducible refine (HD3.out w7 B7.out).mono ?_); rintro z w10 ⟨Z, rfl, hz1, hf, hb⟩; have Z10 := Lib.hid hf; have ZM := Lib.hid hz1; have B10 := Lib.hid (B7.out.trans (hb.mono B7.out.size)); clear hz1 hf hb)
        | ((with_reducible refine alloc_row (o := ⟨some 9, _, _, _, _, _⟩) rfl _ rfl _ CZZ.out ?_); intro w11 hr hb hz; have T11 := Lib.hid hr; have V11 := Lib.hid hb; have B11 := Lib.hid (B10.out.trans (hb.mono B10.out.size)); clear hr hb hz)
        | ((with_reducible refine store_row (o := ⟨none, _, _, _, _, _⟩) rfl _ (.tmp 9) _ rfl w10.heap.size Z.cells ?_ ?_ 25 _ T11.out ?_ ?_ ?_ ?_); (focus go_simp); (focus (first | (go_simp; done) | (go_simp; rfl))); (focus (exact CZ.out)); (focus rfl); (focus (exact cm_one _ _ _ _ _ _ _ _ _ _ _ _ _ _ _ _)); intro w12 hr hu; have T12 := Lib.hid hr; have Z12 := Lib.hid (Z10.out.mono (V11.out.trans (hu.below (Nat.le_refl _)))); have B12 := Lib.hid (B11.out.trans (hu.below B10.out.size)); clear hr hu)
        | ((with_reducible refine load_row (o := ⟨some 50, _, _, _, _, _⟩) rfl _ _ rfl w10.heap.size ?_ _ Z.cells _ T12.out Try.underlying25 rfl ?_ ?_); (focus go_simp); (focus (exact CZ.out)))
        | (go_at_call 9; (with_reducible refine (HE3.out Z w12 Z12.out ZM.out).mono ?_); rintro z w13 ⟨y13, d13, rfl, hr, hb⟩; have R13 := Lib.hid hr; have B13 := Lib.hid (B12.out.trans (hb.mono B12.out.size)); clear hr hb)
        | (go_at_call 11; (with_reducible refine (sequal y13 ba bm bm d13 bc lb lb w13 R13.out (HB.out.mono B13.out)).mono ?_); rw [decide_eq_true rfl]; rintro z w14 ⟨rfl, hq⟩; have B14 := Lib.hid (B13.out.trans (hq.below _)); clear hq)
        | (go_at_call 8; (with_reducible refine (HA.out w14).mono ?_); rintro z w30 ⟨rfl, hb⟩; have B30 := Lib.hid (B14.out.trans (hb.mono B14.out.size)); clear hb))
      go_ret
      exact ⟨rfl, B30.out⟩
    · have q1 : (eb == 0) = false := by simpa using hdok
      have q2 : (eb != 0) = true := by simpa using hdok
      go_enter Try.func4, Try.ntmps4
      go_wp2_with (first
        | ((with_reducible refine box_row (o := ⟨some 2, _, _, _, _, _⟩) rfl _ _ rfl (cmC cl sq kd id ep va vn vc sp nm nu by1 ti pa pn pc) rfl ?_); intro w1 hr hb hz; have X1 := Lib.hid hr; have B1 := Lib.hid hb; clear hr hb hz)
        | ((with_reducible refine load_row (o := ⟨some 13, _, _, _, _, _⟩) rfl _ _ rfl w.heap.size ?_ _ (cmC cl sq kd id ep va vn vc sp nm nu by1 ti pa pn pc) _ X1.out Try.underlying25 rfl ?_ ?_); (focus go_simp); (focus (exact CZ.out)))
        | (go_at_call 7; (with_reducible refine (HF.out w1 B1.out).mono ?_); rintro z w2 ⟨rfl, hb⟩; have X2 := Lib.hid (X1.out.below hb X1.out.lt); have B2 := Lib.hid (B1.out.trans (hb.mono B1.out.size)); clear hb)
        | ((with_reducible refine load_row (o := ⟨some 23, _, _, _, _, _⟩) rfl _ _ rfl w.heap.size ?_ _ (cmC cl sq kd id ep va vn vc sp nm nu by1 ti pa pn pc) _ X2.out Try.underlying25 rfl ?_ ?_); (focus go_simp); (focus (exact CZ.out)))
        | (go_at_call 9; (with_reducible refine (HE2.out w2 B2.out).mono ?_); rintro z w3 ⟨y3, m3, d3, rfl, hr, hm3, hb⟩; have R3 := Lib.hid hr; have L3 := Lib.hid hm3; have X3 := Lib.hid (X2.out.below hb X2.out.lt); have B3 := Lib.hid (B2.out.trans (hb.mono B2.out.size)); clear hr hm3 hb)
        | (go_at_call 16; (with_reducible refine (HD1.out y3 m3 d3 w3 R3.out L3.out).mono ?_); rintro z w4 ⟨Y, rfl, hy, hf, hb⟩; have Y4 := Lib.hid hf; have YM := Lib.hid hy; have X4 := Lib.hid (X3.out.below hb X3.out.lt); have B4 := Lib.hid (B3.out.trans (hb.mono B3.out.size)); clear hy hf hb)
        | ((with_reducible refine alloc_row (o := ⟨some 7, _, _, _, _, _⟩) rfl _ rfl _ CZZ.out ?_); intro w5 hr hb hz; have T5 := Lib.hid hr; have Y5 := Lib.hid hb; have X5 := Lib.hid (X4.out.below hb X4.out.lt); have B5 := Lib.hid (B4.out.trans (hb.mono B4.out.size)); have XT := Lib.hid (Nat.ne_of_lt X4.out.lt); clear hr hb hz)
        | ((with_reducible refine store_row (o := ⟨none, _, _, _, _, _⟩) rfl _ (.tmp 7) _ rfl w4.heap.size Y.cells ?_ ?_ 25 _ T5.out ?_ ?_ ?_ ?_); (focus go_simp); (focus (first | (go_simp; done) | (go_simp; rfl))); (focus (exact CZ.out)); (focus rfl); (focus (exact cm_one _ _ _ _ _ _ _ _ _ _ _ _ _ _ _ _)); intro w6 hr hu; have T6 := Lib.hid hr; have X6 := Lib.hid (X5.out.upd hu XT.out); have Y6 := Lib.hid (Y4.out.mono (Y5.out.trans (hu.below (Nat.le_refl _)))); have B6 := Lib.hid (B5.out.trans (hu.below B4.out.size)); clear hr hu)
        | ((with_reducible refine load_rowg (o := ⟨some 37, _, _, _, _, _⟩) 2 false 36 rfl _ _ rfl w4.heap.size _ (Y.cells) _ T6.out Try.underlying25 rfl ?_ ?_ ?_ ?_ ?_); (focus rfl); (focus (first | (go_simp; done) | (go_simp; rfl))); (focus go_simp); (focus (exact CZ.out)))
        | ((with_reducible refine load_rowg (o := ⟨some 38, _, _, _, _, _⟩) 2 false 36 rfl _ _ rfl w.heap.size _ (cmC cl sq kd id ep va vn vc sp nm nu by1 ti pa pn pc) _ X6.out Try.underlying25 rfl ?_ ?_ ?_ ?_ ?_); (focus rfl); (focus (first | (go_simp; done) | (go_simp; rfl))); (focus go_simp); (focus (exact CZ.out)))
        | (go_at_call 14; (with_reducible refine (HS.out Y w6 Y6.out YM.out B6.out).mono ?_); rintro z w7 ⟨rfl, hb⟩; have B7 := Lib.hid (B6.out.trans (hb.mono B6.out.size)); clear hb)
        | (go_at_call 16; (with_reducible refine (HD3.out w7 B7.out).mono ?_); rintro z w10 ⟨Z, rfl, hz1, hf, hb⟩; have Z10 := Lib.hid hf; have ZM := Lib.hid hz1; have B10 := Lib.hid (B7.out.trans (hb.mono B7.out.size)); clear hz1 hf hb)
        | ((with_reducible refine alloc_row (o := ⟨some 9, _, _, _, _, _⟩) rfl _ rfl _ CZZ.out ?_); intro w11 hr hb hz; have T11 := Lib.hid hr; have V11 := Lib.hid hb; have B11 := Lib.hid (B10.out.trans (hb.mono B10.out.size)); clear hr hb hz)
        | ((with_reducible refine store_row (o := ⟨none, _, _, _, _, _⟩) rfl _ (.tmp 9) _ rfl w10.heap.size Z.cells ?_ ?_ 25 _ T11.out ?_ ?_ ?_ ?_); (focus go_simp); (focus (first | (go_simp; done) | (go_simp; rfl))); (focus (exact CZ.out)); (focus rfl); (focus (exact cm_one _ _ _ _ _ _ _ _ _ _ _ _ _ _ _ _)); intro w12 hr hu; have T12 := Lib.hid hr; have Z12 := Lib.hid (Z10.out.mono (V11.out.trans (hu.below (Nat.le_refl _)))); have B12 := Lib.hid (B11.out.trans (hu.below B10.out.size)); clear hr hu)
        | (go_at_call 8; (with_reducible refine (HA.out w12).mono ?_); rintro z w30 ⟨rfl, hb⟩; have B30 := Lib.hid (B12.out.trans (hb.mono B12.out.size)); clear hb))
      go_ret
      exact ⟨rfl, B30.out⟩
end Go.Proofs.Ytmacjpgeamlmhaa.W
