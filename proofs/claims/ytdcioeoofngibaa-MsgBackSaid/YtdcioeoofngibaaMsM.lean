/- LAYER 16 (msg): the law MsgBack, out of what the program's calls promise. -/
import Derived.Test.YtdcioeoofngibaaMsA
set_option linter.unusedSimpArgs false
set_option linter.unusedVariables false
namespace Go.Proofs.Ytdcioeoofngibaa.W
open Go Go.ChangeShapes Go.WideShapes Go.ChangeAt Go.RowKit
open Go.Proofs.Ytdcioeoofngibaa.P (enc dec)

set_option maxRecDepth 100000 in
set_option maxHeartbeats 32000000 in
theorem back_of (hE : MsEncP 13) (D : List UInt8 → MF × Int) (hO : DecOK D) (hD : MsDecP 14 D) (m : Ms) (ba : Option Addr) (bm bc : Nat) (lb d : List UInt8) (L : List (En × List UInt8)) (w : World) (hm : MsF w m d L) (hb : Rd w ba bm bc lb) :
    Calls Try.prog 4 #[.agg m.cells.toArray, .slice ba bm bc] w fun x w' => x = .returned (.bool true) ∧ Below w.heap.size w w' := by
  have MZ := Lib.hid ms_zero
  have HZ0 := Lib.hid (show (Try.prog.info? 25).map (·.size) = some m.cells.length from ms_size)
  have HB := Lib.hid hb
  have HAW := Lib.hid (awake16 hE)
  have HF0 := Lib.hid (fun (w' : World) (h : Below w.heap.size w w') => fewM m d L w' (hm.mono h))
  obtain ⟨fv, hfv⟩ : ∃ v, fewMV m L = v := ⟨_, rfl⟩
  rw [hfv] at HF0
  have HEN0 : fv = true → Hid (∀ w', Below w.heap.size w w' → Calls Try.prog 13 #[.agg m.cells.toArray] w' fun x w2 => ∃ a n c, x = .returned (.tuple #[.slice a n c, .int .i64 (m.pl d L).chk]) ∧ Rd w2 a n c (encMV (m.pl d L)) ∧ Below w'.heap.size w' w2) :=
    fun h => Lib.hid (fun w' hw => hE m d L w' (hm.mono hw) (hfv.trans h))
  have HSV0 : Hid (∀ m2 d2 L2 w', MsF w' m2 d2 L2 → Below w.heap.size w w' → m2.pl d2 L2 = m.pl d L → (m.pl d L).chk = 0 → Calls Try.prog 10 #[.agg (Ms.cells m2).toArray, .agg m.cells.toArray] w' fun x w2 => x = .returned (.bool true) ∧ Below w'.heap.size w' w2) := Lib.hid (fun m2 d2 L2 w' h2 hw he hc => by
    have hfw := few_of h2 (by rw [he]; exact hc)
    have hl := (fewMV_spec hfw).2.2.1
    have hen := h2.es.hlen
    have := vsame m2 m d2 d L2 L w' h2 (hm.mono hw) (by omega)
    rw [he, MF.same_self] at this
    exact this)
  have HD : Hid (MsDecP 14 D) := Lib.hid hD
  have PL0 := encMV_len (m.pl d L)
  have hdec := fun h => hO.there (m.pl d L) h
  obtain ⟨p, hp⟩ : ∃ p, m.pl d L = p := ⟨_, rfl⟩
  rw [hp] at HEN0 HSV0 PL0 hdec
  obtain ⟨C, hC⟩ : ∃ C, m.cells = C := ⟨_, rfl⟩
  rw [hC] at HZ0 HF0 HEN0 HSV0 ⊢
  have HZ := HZ0
  clear HZ0 hm hfv hC hp
  by_cases hbig : fv = false ∨ (fv = true ∧ 6000 < bm)
  · have hs : fv = false ∨ (fv = true ∧ 6000 < (bm : Int)) := hbig.imp id (fun h => ⟨h.1, by omega⟩)
    have HF := HF0
    clear hbig HF0 HEN0 HSV0 hdec PL0
    rcases hs with rfl | ⟨rfl, h2⟩
    all_goals
      go_enter Try.func4, Try.ntmps4
      go_wp2_with (first
        | (with_reducible refine box_row (o := ⟨some 2, _, _, _, _, _⟩) rfl _ _ rfl C rfl ?_; intro w1 hr1 hb1 hz1; have E1 := Lib.hid hr1; have B1 := Lib.hid hb1; clear hr1 hb1 hz1)
        | ((with_reducible refine load_row (o := ⟨some 13, _, _, _, _, _⟩) rfl _ _ rfl w.heap.size ?_ _ C _ E1.out Try.underlying25 rfl ?_ ?_); (focus go_simp); (focus (exact HZ.out)))
        | (go_at_call 5; (with_reducible refine (HF.out w1 B1.out).mono ?_); rintro x w2 ⟨rfl, hb⟩; have E2 := Lib.hid (E1.out.below hb E1.out.lt); have B2 := Lib.hid (B1.out.trans (hb.mono B1.out.size)); clear hb)
        | (go_at_call 6; (with_reducible refine (HAW.out w2).mono ?_); rintro x wz ⟨rfl, hb⟩; have Bz := Lib.hid (B2.out.trans (hb.mono B2.out.size)); clear hb))
      go_ret
      exact ⟨rfl, Bz.out⟩
  obtain rfl : fv = true := by cases fv with | true => rfl | false => exact absurd (.inl rfl) hbig
  have h6 : ¬ 6000 < (bm : Int) := fun h => hbig (.inr ⟨rfl, by omega⟩)
  have HM6 := Lib.hid (show bm ≤ 1000000 by omega)
  have HF := HF0
  have HEN := HEN0 rfl
  obtain ⟨G, v, hGv⟩ : ∃ G v, D lb = (G, v) := ⟨_, _, rfl⟩
  have HDV := Lib.hid (show (D lb).2 = v by rw [hGv])
  have HDG := Lib.hid (show (D lb).1 = G by rw [hGv])
  have HEB0 : v = 0 → Hid (∀ m4 d4 L4 w', MsF w' m4 d4 L4 → m4.pl d4 L4 = (D lb).1 → Calls Try.prog 13 #[.agg (Ms.cells m4).toArray] w' fun x w2 => ∃ a n c, x = .returned (.tuple #[.slice a n c, .int .i64 0]) ∧ Rd w2 a n c lb ∧ Below w'.heap.size w' w2) := fun hv => Lib.hid (fun m4 d4 L4 w' h4 he => by
    rw [HDG.out] at he
    obtain ⟨hc, hb⟩ := hO.back _ _ (by rw [hGv, hv])
    have := hE m4 d4 L4 w' h4 (few_of h4 (by rw [he]; exact hc))
    rw [he, hc] at this
    unfold encMV at this
    rw [if_pos hc, hb] at this
    exact this)
  clear HF0 HEN0 hbig hGv hE hD hb
  rcases chk01M p with h0 | h0
  · obtain ⟨pe, hpe⟩ : ∃ o, encMV p = o := ⟨_, rfl⟩
    have hp1 : encM p = pe := by rw [← hpe]; unfold encMV; rw [if_pos h0]
    have HF0 := Lib.hid (show (D pe).2 = 0 by rw [← hp1, hdec h0])
    have HSV : Hid (∀ m2 d2 L2 w', MsF w' m2 d2 L2 → Below w.heap.size w w' → m2.pl d2 L2 = (D pe).1 → Calls Try.prog 10 #[.agg (Ms.cells m2).toArray, .agg C.toArray] w' fun x w2 => x = .returned (.bool true) ∧ Below w'.heap.size w' w2) := Lib.hid (fun m2 d2 L2 w' a b c => HSV0.out m2 d2 L2 w' a b (by rw [c, ← hp1, hdec h0]) h0)
    rw [hpe] at HEN PL0
    rw [h0] at HEN
    have PL := Lib.hid PL0
    clear hpe hp1 hdec h0 HSV0 PL0
    by_cases hv : v = 0
    · have HEB := HEB0 hv
      subst hv
      clear HEB0
      go_enter Try.func4, Try.ntmps4
      go_wp2_with (first
          | (with_reducible refine box_row (o := ⟨some 2, _, _, _, _, _⟩) rfl _ _ rfl C rfl ?_; intro w1 hr1 hb1 hz1; have E1 := Lib.hid hr1; have B1 := Lib.hid hb1; clear hr1 hb1 hz1)
          | ((with_reducible refine load_row (o := ⟨some 13, _, _, _, _, _⟩) rfl _ _ rfl w.heap.size ?_ _ C _ E1.out Try.underlying25 rfl ?_ ?_); (focus go_simp); (focus (exact HZ.out)))
          | (go_at_call 5; (with_reducible refine (HF.out w1 B1.out).mono ?_); rintro x w2 ⟨rfl, hb⟩; have E2 := Lib.hid (E1.out.below hb E1.out.lt); have B2 := Lib.hid (B1.out.trans (hb.mono B1.out.size)); clear hb)
          | ((with_reducible refine load_row (o := ⟨some 23, _, _, _, _, _⟩) rfl _ _ rfl w.heap.size ?_ _ C _ E2.out Try.underlying25 rfl ?_ ?_); (focus go_simp); (focus (exact HZ.out)))
          | (go_at_call 13; (with_reducible refine (HEN.out w2 B2.out).mono ?_); rintro x w3 ⟨xa, xm, xc, rfl, hx, hb⟩; have X3 := Lib.hid hx; have XL := Lib.hid (show xm ≤ 1000000 by have := PL.out; have := hx.hlen; omega); have E3 := Lib.hid (E2.out.below hb E2.out.lt); have B3 := Lib.hid (B2.out.trans (hb.mono B2.out.size)); clear hb hx)
          | (go_at_call 14; (with_reducible refine (HD.out xa xm xc pe w3 X3.out XL.out).mono ?_); rw [HF0.out]; rintro x wa ⟨m2, d2, L2, rfl, h1, h2, hb⟩; have Fa := Lib.hid h1; have P2 := Lib.hid h2; have Ea := Lib.hid (E3.out.below hb E3.out.lt); have Ba := Lib.hid (B3.out.trans (hb.mono B3.out.size)); clear h1 h2 hb; obtain ⟨C2, hC2⟩ : ∃ C2, Ms.cells m2 = C2 := ⟨_, rfl⟩; rw [hC2]; have HC2 := Lib.hid hC2; have HZ2 := Lib.hid (show (Try.prog.info? 25).map (·.size) = some C2.length by rw [← hC2]; exact ms_size); have HL2 := Lib.hid (show C2.length = 13 by rw [← hC2]; rfl); have HO2 := Lib.hid (show ∀ v ∈ C2, v.oneCell' = true by rw [← hC2]; exact ms_one _); clear hC2)
          | ((with_reducible refine alloc_row (o := ⟨some 7, _, _, _, _, _⟩) rfl _ rfl _ MZ.out ?_); intro wb hr hb hz; have Hb := Lib.hid hr; have Kb := Lib.hid hb; clear hr hb hz)
          | ((with_reducible refine store_row (o := ⟨none, _, _, _, _, _⟩) rfl _ (.tmp 7) _ rfl wa.heap.size C2 ?_ ?_ 25 _ Hb.out ?_ ?_ ?_ ?_); (focus go_simp); (focus (first | (go_simp; done) | (go_simp; rfl))); (focus (exact HZ2.out)); (focus (first | exact HL2.out | exact HL2.out.symm)); (focus (exact HO2.out)); intro wc hr hu; have Hc := Lib.hid hr; have hk := Kb.out.trans (hu.below (Nat.le_refl _)); have Ec := Lib.hid (Ea.out.below hk Ea.out.lt); have Fc := Lib.hid (Fa.out.mono hk); have Bc := Lib.hid (Ba.out.trans (hk.mono Ba.out.size)); have HS := Lib.hid (HSV.out m2 d2 L2 wc Fc.out Bc.out P2.out); rw [HC2.out] at HS; clear hr hu hk)
          | ((with_reducible refine load_rowg (o := ⟨some 37, _, _, _, _, _⟩) 2 false 36 rfl _ _ rfl wa.heap.size _ C2 _ Hc.out Try.underlying25 rfl ?_ ?_ ?_ ?_ ?_); (focus rfl); (focus go_simp); (focus go_simp); (focus (exact HZ2.out)))
          | ((with_reducible refine load_rowg (o := ⟨some 38, _, _, _, _, _⟩) 2 false 36 rfl _ _ rfl w.heap.size _ C _ Ec.out Try.underlying25 rfl ?_ ?_ ?_ ?_ ?_); (focus rfl); (focus go_simp); (focus go_simp); (focus (exact HZ.out)))
          | (go_at_call 10; (with_reducible refine HS.out.mono ?_); rintro x wd ⟨rfl, hb⟩; have Bd := Lib.hid (Bc.out.trans (hb.mono Bc.out.size)); clear hb)
          | (go_at_call 14; (with_reducible refine (HD.out ba bm bc lb wd (HB.out.mono Bd.out) HM6.out).mono ?_); rw [HDV.out]; rintro x we ⟨m4, d4, L4, rfl, h1, h2, hb⟩; have Fe := Lib.hid h1; have P4 := Lib.hid h2; have Be := Lib.hid (Bd.out.trans (hb.mono Bd.out.size)); clear h1 h2 hb; obtain ⟨C4, hC2⟩ : ∃ C2, Ms.cells m4 = C2 := ⟨_, rfl⟩; rw [hC2]; have HC4 := Lib.hid hC2; have HZ4 := Lib.hid (show (Try.prog.info? 25).map (·.size) = some C4.length by rw [← hC2]; exact ms_size); have HL4 := Lib.hid (show C4.length = 13 by rw [← hC2]; rfl); have HO4 := Lib.hid (show ∀ v ∈ C4, v.oneCell' = true by rw [← hC2]; exact ms_one _); clear hC2)
          | ((with_reducible refine alloc_row (o := ⟨some 9, _, _, _, _, _⟩) rfl _ rfl _ MZ.out ?_); intro wf hr hb hz; have Hf := Lib.hid hr; have Kf := Lib.hid hb; clear hr hb hz)
          | ((with_reducible refine store_row (o := ⟨none, _, _, _, _, _⟩) rfl _ (.tmp 9) _ rfl we.heap.size C4 ?_ ?_ 25 _ Hf.out ?_ ?_ ?_ ?_); (focus go_simp); (focus (first | (go_simp; done) | (go_simp; rfl))); (focus (exact HZ4.out)); (focus (first | exact HL4.out | exact HL4.out.symm)); (focus (exact HO4.out)); intro wg hr hu; have Hg := Lib.hid hr; have hk := Kf.out.trans (hu.below (Nat.le_refl _)); have Fg := Lib.hid (Fe.out.mono hk); have Bg := Lib.hid (Be.out.trans (hk.mono Be.out.size)); have HQ := Lib.hid (HEB.out m4 d4 L4 wg Fg.out P4.out); rw [HC4.out] at HQ; clear hr hu hk)
          | ((with_reducible refine load_row (o := ⟨some 50, _, _, _, _, _⟩) rfl _ _ rfl we.heap.size ?_ _ C4 _ Hg.out Try.underlying25 rfl ?_ ?_); (focus go_simp); (focus (exact HZ4.out)))
          | (go_at_call 13; (with_reducible refine HQ.out.mono ?_); rintro x wh ⟨ya, ym, yc, rfl, hy, hb⟩; obtain rfl : ym = bm := (by rw [← hy.hlen]; exact HB.out.hlen); have Yh := Lib.hid hy; have Bh := Lib.hid (Bg.out.trans (hb.mono Bg.out.size)); clear hb hy)
          | (go_at_call 15; (with_reducible refine (sequal ya ba ym ym yc bc lb lb wh Yh.out (HB.out.mono Bh.out)).mono ?_); rw [decide_eq_true rfl]; rintro x wi ⟨rfl, hq⟩; have Bi := Lib.hid (Bh.out.trans (hq.below _)); clear hq)
          | (go_at_call 6; (with_reducible refine (HAW.out wi).mono ?_); rintro x wz ⟨rfl, hb⟩; have Bz := Lib.hid (Bi.out.trans (hb.mono Bi.out.size)); clear hb))
      go_ret
      exact ⟨rfl, Bz.out⟩
    · have hne : (v == 0) = false := by simpa using hv
      clear HEB0 hv
      go_enter Try.func4, Try.ntmps4
      go_wp2_with (first
          | (with_reducible refine box_row (o := ⟨some 2, _, _, _, _, _⟩) rfl _ _ rfl C rfl ?_; intro w1 hr1 hb1 hz1; have E1 := Lib.hid hr1; have B1 := Lib.hid hb1; clear hr1 hb1 hz1)
          | ((with_reducible refine load_row (o := ⟨some 13, _, _, _, _, _⟩) rfl _ _ rfl w.heap.size ?_ _ C _ E1.out Try.underlying25 rfl ?_ ?_); (focus go_simp); (focus (exact HZ.out)))
          | (go_at_call 5; (with_reducible refine (HF.out w1 B1.out).mono ?_); rintro x w2 ⟨rfl, hb⟩; have E2 := Lib.hid (E1.out.below hb E1.out.lt); have B2 := Lib.hid (B1.out.trans (hb.mono B1.out.size)); clear hb)
          | ((with_reducible refine load_row (o := ⟨some 23, _, _, _, _, _⟩) rfl _ _ rfl w.heap.size ?_ _ C _ E2.out Try.underlying25 rfl ?_ ?_); (focus go_simp); (focus (exact HZ.out)))
          | (go_at_call 13; (with_reducible refine (HEN.out w2 B2.out).mono ?_); rintro x w3 ⟨xa, xm, xc, rfl, hx, hb⟩; have X3 := Lib.hid hx; have XL := Lib.hid (show xm ≤ 1000000 by have := PL.out; have := hx.hlen; omega); have E3 := Lib.hid (E2.out.below hb E2.out.lt); have B3 := Lib.hid (B2.out.trans (hb.mono B2.out.size)); clear hb hx)
          | (go_at_call 14; (with_reducible refine (HD.out xa xm xc pe w3 X3.out XL.out).mono ?_); rw [HF0.out]; rintro x wa ⟨m2, d2, L2, rfl, h1, h2, hb⟩; have Fa := Lib.hid h1; have P2 := Lib.hid h2; have Ea := Lib.hid (E3.out.below hb E3.out.lt); have Ba := Lib.hid (B3.out.trans (hb.mono B3.out.size)); clear h1 h2 hb; obtain ⟨C2, hC2⟩ : ∃ C2, Ms.cells m2 = C2 := ⟨_, rfl⟩; rw [hC2]; have HC2 := Lib.hid hC2; have HZ2 := Lib.hid (show (Try.prog.info? 25).map (·.size) = some C2.length by rw [← hC2]; exact ms_size); have HL2 := Lib.hid (show C2.length = 13 by rw [← hC2]; rfl); have HO2 := Lib.hid (show ∀ v ∈ C2, v.oneCell' = true by rw [← hC2]; exact ms_one _); clear hC2)
          | ((with_reducible refine alloc_row (o := ⟨some 7, _, _, _, _, _⟩) rfl _ rfl _ MZ.out ?_); intro wb hr hb hz; have Hb := Lib.hid hr; have Kb := Lib.hid hb; clear hr hb hz)
          | ((with_reducible refine store_row (o := ⟨none, _, _, _, _, _⟩) rfl _ (.tmp 7) _ rfl wa.heap.size C2 ?_ ?_ 25 _ Hb.out ?_ ?_ ?_ ?_); (focus go_simp); (focus (first | (go_simp; done) | (go_simp; rfl))); (focus (exact HZ2.out)); (focus (first | exact HL2.out | exact HL2.out.symm)); (focus (exact HO2.out)); intro wc hr hu; have Hc := Lib.hid hr; have hk := Kb.out.trans (hu.below (Nat.le_refl _)); have Ec := Lib.hid (Ea.out.below hk Ea.out.lt); have Fc := Lib.hid (Fa.out.mono hk); have Bc := Lib.hid (Ba.out.trans (hk.mono Ba.out.size)); have HS := Lib.hid (HSV.out m2 d2 L2 wc Fc.out Bc.out P2.out); rw [HC2.out] at HS; clear hr hu hk)
          | ((with_reducible refine load_rowg (o := ⟨some 37, _, _, _, _, _⟩) 2 false 36 rfl _ _ rfl wa.heap.size _ C2 _ Hc.out Try.underlying25 rfl ?_ ?_ ?_ ?_ ?_); (focus rfl); (focus go_simp); (focus go_simp); (focus (exact HZ2.out)))
          | ((with_reducible refine load_rowg (o := ⟨some 38, _, _, _, _, _⟩) 2 false 36 rfl _ _ rfl w.heap.size _ C _ Ec.out Try.underlying25 rfl ?_ ?_ ?_ ?_ ?_); (focus rfl); (focus go_simp); (focus go_simp); (focus (exact HZ.out)))
          | (go_at_call 10; (with_reducible refine HS.out.mono ?_); rintro x wd ⟨rfl, hb⟩; have Bd := Lib.hid (Bc.out.trans (hb.mono Bc.out.size)); clear hb)
          | (go_at_call 14; (with_reducible refine (HD.out ba bm bc lb wd (HB.out.mono Bd.out) HM6.out).mono ?_); rw [HDV.out]; rintro x we ⟨m4, d4, L4, rfl, h1, h2, hb⟩; have Fe := Lib.hid h1; have P4 := Lib.hid h2; have Be := Lib.hid (Bd.out.trans (hb.mono Bd.out.size)); clear h1 h2 hb; obtain ⟨C4, hC2⟩ : ∃ C2, Ms.cells m4 = C2 := ⟨_, rfl⟩; rw [hC2]; have HC4 := Lib.hid hC2; have HZ4 := Lib.hid (show (Try.prog.info? 25).map (·.size) = some C4.length by rw [← hC2]; exact ms_size); have HL4 := Lib.hid (show C4.length = 13 by rw [← hC2]; rfl); have HO4 := Lib.hid (show ∀ v ∈ C4, v.oneCell' = true by rw [← hC2]; exact ms_one _); clear hC2)
          | ((with_reducible refine alloc_row (o := ⟨some 9, _, _, _, _, _⟩) rfl _ rfl _ MZ.out ?_); intro wf hr hb hz; have Hf := Lib.hid hr; have Kf := Lib.hid hb; clear hr hb hz)
          | ((with_reducible refine store_row (o := ⟨none, _, _, _, _, _⟩) rfl _ (.tmp 9) _ rfl we.heap.size C4 ?_ ?_ 25 _ Hf.out ?_ ?_ ?_ ?_); (focus go_simp); (focus (first | (go_simp; done) | (go_simp; rfl))); (focus (exact HZ4.out)); (focus (first | exact HL4.out | exact HL4.out.symm)); (focus (exact HO4.out)); intro wg hr hu; have Hg := Lib.hid hr; have hk := Kf.out.trans (hu.below (Nat.le_refl _)); have Fg := Lib.hid (Fe.out.mono hk); have Bg := Lib.hid (Be.out.trans (hk.mono Be.out.size)); clear hr hu hk)
          | (go_at_call 6; (with_reducible refine (HAW.out wg).mono ?_); rintro x wz ⟨rfl, hb⟩; have Bz := Lib.hid (Bg.out.trans (hb.mono Bg.out.size)); clear hb))
      go_ret
      exact ⟨rfl, Bz.out⟩
  · obtain ⟨pe, hpe⟩ : ∃ o, encMV p = o := ⟨_, rfl⟩
    rw [hpe] at HEN PL0
    rw [h0] at HEN
    have PL := Lib.hid PL0
    clear hpe hdec h0 HSV0 PL0
    by_cases hv : v = 0
    · have HEB := HEB0 hv
      subst hv
      clear HEB0
      go_enter Try.func4, Try.ntmps4
      go_wp2_with (first
          | (with_reducible refine box_row (o := ⟨some 2, _, _, _, _, _⟩) rfl _ _ rfl C rfl ?_; intro w1 hr1 hb1 hz1; have E1 := Lib.hid hr1; have B1 := Lib.hid hb1; clear hr1 hb1 hz1)
          | ((with_reducible refine load_row (o := ⟨some 13, _, _, _, _, _⟩) rfl _ _ rfl w.heap.size ?_ _ C _ E1.out Try.underlying25 rfl ?_ ?_); (focus go_simp); (focus (exact HZ.out)))
          | (go_at_call 5; (with_reducible refine (HF.out w1 B1.out).mono ?_); rintro x w2 ⟨rfl, hb⟩; have E2 := Lib.hid (E1.out.below hb E1.out.lt); have B2 := Lib.hid (B1.out.trans (hb.mono B1.out.size)); clear hb)
          | ((with_reducible refine load_row (o := ⟨some 23, _, _, _, _, _⟩) rfl _ _ rfl w.heap.size ?_ _ C _ E2.out Try.underlying25 rfl ?_ ?_); (focus go_simp); (focus (exact HZ.out)))
          | (go_at_call 13; (with_reducible refine (HEN.out w2 B2.out).mono ?_); rintro x w3 ⟨xa, xm, xc, rfl, hx, hb⟩; have X3 := Lib.hid hx; have XL := Lib.hid (show xm ≤ 1000000 by have := PL.out; have := hx.hlen; omega); have E3 := Lib.hid (E2.out.below hb E2.out.lt); have B3 := Lib.hid (B2.out.trans (hb.mono B2.out.size)); clear hb hx)
          | (go_at_call 14; (with_reducible refine (HD.out ba bm bc lb w3 (HB.out.mono B3.out) HM6.out).mono ?_); rw [HDV.out]; rintro x we ⟨m4, d4, L4, rfl, h1, h2, hb⟩; have Fe := Lib.hid h1; have P4 := Lib.hid h2; have Be := Lib.hid (B3.out.trans (hb.mono B3.out.size)); clear h1 h2 hb; obtain ⟨C4, hC2⟩ : ∃ C2, Ms.cells m4 = C2 := ⟨_, rfl⟩; rw [hC2]; have HC4 := Lib.hid hC2; have HZ4 := Lib.hid (show (Try.prog.info? 25).map (·.size) = some C4.length by rw [← hC2]; exact ms_size); have HL4 := Lib.hid (show C4.length = 13 by rw [← hC2]; rfl); have HO4 := Lib.hid (show ∀ v ∈ C4, v.oneCell' = true by rw [← hC2]; exact ms_one _); clear hC2)
          | ((with_reducible refine alloc_row (o := ⟨some 9, _, _, _, _, _⟩) rfl _ rfl _ MZ.out ?_); intro wf hr hb hz; have Hf := Lib.hid hr; have Kf := Lib.hid hb; clear hr hb hz)
          | ((with_reducible refine store_row (o := ⟨none, _, _, _, _, _⟩) rfl _ (.tmp 9) _ rfl we.heap.size C4 ?_ ?_ 25 _ Hf.out ?_ ?_ ?_ ?_); (focus go_simp); (focus (first | (go_simp; done) | (go_simp; rfl))); (focus (exact HZ4.out)); (focus (first | exact HL4.out | exact HL4.out.symm)); (focus (exact HO4.out)); intro wg hr hu; have Hg := Lib.hid hr; have hk := Kf.out.trans (hu.below (Nat.le_refl _)); have Fg := Lib.hid (Fe.out.mono hk); have Bg := Lib.hid (Be.out.trans (hk.mono Be.out.size)); have HQ := Lib.hid (HEB.out m4 d4 L4 wg Fg.out P4.out); rw [HC4.out] at HQ; clear hr hu hk)
          | ((with_reducible refine load_row (o := ⟨some 50, _, _, _, _, _⟩) rfl _ _ rfl we.heap.size ?_ _ C4 _ Hg.out Try.underlying25 rfl ?_ ?_); (focus go_simp); (focus (exact HZ4.out)))
          | (go_at_call 13; (with_reducible refine HQ.out.mono ?_); rintro x wh ⟨ya, ym, yc, rfl, hy, hb⟩; obtain rfl : ym = bm := (by rw [← hy.hlen]; exact HB.out.hlen); have Yh := Lib.hid hy; have Bh := Lib.hid (Bg.out.trans (hb.mono Bg.out.size)); clear hb hy)
          | (go_at_call 15; (with_reducible refine (sequal ya ba ym ym yc bc lb lb wh Yh.out (HB.out.mono Bh.out)).mono ?_); rw [decide_eq_true rfl]; rintro x wi ⟨rfl, hq⟩; have Bi := Lib.hid (Bh.out.trans (hq.below _)); clear hq)
          | (go_at_call 6; (with_reducible refine (HAW.out wi).mono ?_); rintro x wz ⟨rfl, hb⟩; have Bz := Lib.hid (Bi.out.trans (hb.mono Bi.out.size)); clear hb))
      go_ret
      exact ⟨rfl, Bz.out⟩
    · have hne : (v == 0) = false := by simpa using hv
      clear HEB0 hv
      go_enter Try.func4, Try.ntmps4
      go_wp2_with (first
          | (with_reducible refine box_row (o := ⟨some 2, _, _, _, _, _⟩) rfl _ _ rfl C rfl ?_; intro w1 hr1 hb1 hz1; have E1 := Lib.hid hr1; have B1 := Lib.hid hb1; clear hr1 hb1 hz1)
          | ((with_reducible refine load_row (o := ⟨some 13, _, _, _, _, _⟩) rfl _ _ rfl w.heap.size ?_ _ C _ E1.out Try.underlying25 rfl ?_ ?_); (focus go_simp); (focus (exact HZ.out)))
          | (go_at_call 5; (with_reducible refine (HF.out w1 B1.out).mono ?_); rintro x w2 ⟨rfl, hb⟩; have E2 := Lib.hid (E1.out.below hb E1.out.lt); have B2 := Lib.hid (B1.out.trans (hb.mono B1.out.size)); clear hb)
          | ((with_reducible refine load_row (o := ⟨some 23, _, _, _, _, _⟩) rfl _ _ rfl w.heap.size ?_ _ C _ E2.out Try.underlying25 rfl ?_ ?_); (focus go_simp); (focus (exact HZ.out)))
          | (go_at_call 13; (with_reducible refine (HEN.out w2 B2.out).mono ?_); rintro x w3 ⟨xa, xm, xc, rfl, hx, hb⟩; have X3 := Lib.hid hx; have XL := Lib.hid (show xm ≤ 1000000 by have := PL.out; have := hx.hlen; omega); have E3 := Lib.hid (E2.out.below hb E2.out.lt); have B3 := Lib.hid (B2.out.trans (hb.mono B2.out.size)); clear hb hx)
          | (go_at_call 14; (with_reducible refine (HD.out ba bm bc lb w3 (HB.out.mono B3.out) HM6.out).mono ?_); rw [HDV.out]; rintro x we ⟨m4, d4, L4, rfl, h1, h2, hb⟩; have Fe := Lib.hid h1; have P4 := Lib.hid h2; have Be := Lib.hid (B3.out.trans (hb.mono B3.out.size)); clear h1 h2 hb; obtain ⟨C4, hC2⟩ : ∃ C2, Ms.cells m4 = C2 := ⟨_, rfl⟩; rw [hC2]; have HC4 := Lib.hid hC2; have HZ4 := Lib.hid (show (Try.prog.info? 25).map (·.size) = some C4.length by rw [← hC2]; exact ms_size); have HL4 := Lib.hid (show C4.length = 13 by rw [← hC2]; rfl); have HO4 := Lib.hid (show ∀ v ∈ C4, v.oneCell' = true by rw [← hC2]; exact ms_one _); clear hC2)
          | ((with_reducible refine alloc_row (o := ⟨some 9, _, _, _, _, _⟩) rfl _ rfl _ MZ.out ?_); intro wf hr hb hz; have Hf := Lib.hid hr; have Kf := Lib.hid hb; clear hr hb hz)
          | ((with_reducible refine store_row (o := ⟨none, _, _, _, _, _⟩) rfl _ (.tmp 9) _ rfl we.heap.size C4 ?_ ?_ 25 _ Hf.out ?_ ?_ ?_ ?_); (focus go_simp); (focus (first | (go_simp; done) | (go_simp; rfl))); (focus (exact HZ4.out)); (focus (first | exact HL4.out | exact HL4.out.symm)); (focus (exact HO4.out)); intro wg hr hu; have Hg := Lib.hid hr; have hk := Kf.out.trans (hu.below (Nat.le_refl _)); have Fg := Lib.hid (Fe.out.mono hk); have Bg := Lib.hid (Be.out.trans (hk.mono Be.out.size)); clear hr hu hk)
          | (go_at_call 6; (with_reducible refine (HAW.out wg).mono ?_); rintro x wz ⟨rfl, hb⟩; have Bz := Lib.hid (Bg.out.trans (hb.mono Bg.out.size)); clear hb))
      go_ret
      exact ⟨rfl, Bz.out⟩
end Go.Proofs.Ytdcioeoofngibaa.W
