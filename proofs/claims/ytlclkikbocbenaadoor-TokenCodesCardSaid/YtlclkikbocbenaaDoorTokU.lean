/- CONTRACTS of layer 8 (token): Read of the reference. -/
import Derived.Test.YtlclkikbocbenaaDoorTokS
set_option linter.unusedSimpArgs false
set_option linter.unusedVariables false
namespace Go.Proofs.YtlclkikbocbenaaDoor.W
open Go Go.ChangeShapes Go.WideShapes Go.ChangeAt Go.RowKit
open Go.Proofs.YtlclkikbocbenaaDoor.P (enc)

theorem textR_err {m : Int} {l : List UInt8} {e : Int} (h : e ≠ 0) : (textR m l e).2.2 = e := by
  unfold textR
  rw [numR_err h, if_pos h]
theorem built_tok1 (a : Int) : Tryd.prog.built 25 [(0, .int .i64 a)] = some (tokC a 0 0 (.slice none 0 0) ⟨#[]⟩).toArray := by kernel_rfl

set_option maxRecDepth 100000 in
set_option maxHeartbeats 4000000 in
theorem utread_any (p : Nat) (l : List UInt8) (e : Int) (w : World) (h : RR w p l e) (ln idv ep : Int) (LR : List Cv) (tR : ByteArray) (lR : List UInt8) (eR : Int) (hR : rdT l e = ((ln, idv, ep, LR, tR), lR, eR)) :
    Calls Tryd.prog 24 #[.pointer (some ⟨p, 0, none⟩)] w fun x w' => ∃ a n c, x = .returned (.agg (tokC ln idv ep (.slice a n c) tR).toArray) ∧ FrN w' w.heap.size (.slice a n c) LR ∧ RR w' p lR eR ∧ Gw p w w' := by
  obtain ⟨B0, l1, e1, h0⟩ : ∃ x y z, numR 4 l e = (x, y, z) := ⟨_, _, _, rfl⟩
  obtain ⟨B1, l2, e2, h1⟩ : ∃ x y z, numR 2147483648 l1 e1 = (x, y, z) := ⟨_, _, _, rfl⟩
  obtain ⟨B2, l3, e3, h2⟩ : ∃ x y z, numR 2147483648 l2 e2 = (x, y, z) := ⟨_, _, _, rfl⟩
  obtain ⟨K, l4, e4, h3⟩ : ∃ x y z, numR 8 l3 e3 = (x, y, z) := ⟨_, _, _, rfl⟩
  obtain ⟨LK, l5, e5, h4⟩ : ∃ x y z, rdN K l4 e4 = (x, y, z) := ⟨_, _, _, rfl⟩
  obtain ⟨tx, l6, e6, h5⟩ : ∃ x y z, textR 32 l5 e5 = (x, y, z) := ⟨_, _, _, rfl⟩
  obtain ⟨t6, ht6⟩ : ∃ t6, str tx = t6 := ⟨_, rfl⟩
  have hR2 : finT B0 B1 B2 LK t6 l6 e6 = ((ln, idv, ep, LR, tR), lR, eR) := by
    rw [← hR, rdT, sR5, sR4, sR3, sR2, sR1, h0]; dsimp only; rw [h1]; dsimp only; rw [h2]; dsimp only; rw [h3]; dsimp only; rw [h4]; dsimp only; rw [h5, ht6]
  obtain ⟨LQ, hq⟩ : ∃ LQ, allR l3 e3 = (LQ, l5, e5) ∧ (e5 = 0 → LQ = LK) ∧ (∀ c ∈ LQ, c.fit) := by
    unfold allR
    rw [h3]; dsimp only; rw [h4]; dsimp only
    have hf := rdN_fit l4 e4 K
    rw [h4] at hf
    by_cases h50 : e5 = 0
    · rw [if_neg (by simpa using h50)]; exact ⟨_, rfl, fun _ => rfl, hf⟩
    · rw [if_pos h50]; exact ⟨_, rfl, fun h => absurd h h50, fun c hc => by cases hc⟩
  obtain ⟨hq1, hq2, hq3⟩ := hq
  have he56 : e6 = 0 → e5 = 0 := by
    intro h60
    by_cases h50 : e5 = 0
    · exact h50
    · have := textR_err (m := 32) (l := l5) h50
      rw [h5] at this
      dsimp only at this
      rw [← this]; exact h60
  have HP := Lib.hid h
  have H0 := Lib.hid h0
  have H1 := Lib.hid h1
  have H2 := Lib.hid h2
  have HQ := Lib.hid hq1
  have HQ2 := Lib.hid (fun h => hq2 (he56 h))
  have HQ3 := Lib.hid hq3
  have H5 := Lib.hid h5
  have HT6 := Lib.hid ht6
  have HR2 := Lib.hid hR2
  have TZ := Lib.hid tok_zero
  have TS := Lib.hid tok_size
  have PL := Lib.hid h.lt
  have PNE := Lib.hid (Nat.ne_of_gt h.lt)
  clear h h0 h1 h2 h3 h4 h5 hR hR2 ht6 hq1 hq2 hq3 he56
  go_enter Tryd.func24, Tryd.ntmps24
  go_wp2_with ((with_reducible refine alloc_row (o := ⟨some 2, _, _, _, _, _⟩) rfl _ rfl _ TZ.out ?_); intro w1 hr1 hb1 hz1; have R1 := Lib.hid hr1; have P1 := Lib.hid (HP.out.mono hb1); have G1 := Lib.hid (Gw.of_below hb1 : Gw p w w1); clear hr1 hb1 hz1)
  refine (rnumR p 4 l e w1 P1.out).mono ?_
  rw [H0.out]
  dsimp only
  rintro x w2 ⟨rfl, hP2, hu2⟩
  have P2 := Lib.hid hP2
  have R2 := Lib.hid (R1.out.upd hu2 PNE.out)
  have G2 := Lib.hid (G1.out.trans (Gw.upd hu2))
  clear hP2 hu2
  go_wp2_with (first
    | ((with_reducible refine build_row (o := ⟨some 6, _, _, _, _, _⟩) rfl _ _ rfl (tokC B0 0 0 (.slice none 0 0) ⟨#[]⟩) ?_ ?_); (focus (go_simp; exact built_tok1 _)))
    | ((with_reducible refine alloc_row (o := ⟨some 3, _, _, _, _, _⟩) rfl _ rfl _ TZ.out ?_); intro w5 hr5 hb5 hz5; have S5 := Lib.hid hr5; have R5 := Lib.hid (R2.out.below hb5 R2.out.lt); have P5 := Lib.hid (P2.out.mono hb5); have G5 := Lib.hid (G2.out.trans (Gw.of_below hb5)); have NE := Lib.hid (Nat.ne_of_lt R2.out.lt); have LO := Lib.hid (show w.heap.size < w2.heap.size from R2.out.lt); clear hr5 hb5 hz5)
    | ((with_reducible refine store_row (o := ⟨none, _, _, _, _, _⟩) rfl _ (.tmp 3) _ rfl w2.heap.size (tokC B0 0 0 (.slice none 0 0) ⟨#[]⟩) ?_ ?_ 25 _ S5.out ?_ ?_ ?_ ?_); (focus go_simp); (focus go_simp); (focus (exact TS.out)); (focus rfl); (focus (exact tok_one _ _ _ _ _ _ _)); intro w6 hr6 hu6; have S6 := Lib.hid hr6; have R6 := Lib.hid (R5.out.upd hu6 NE.out); have P6 := Lib.hid (P5.out.tok S5.out (NB_tok _ _ _ _ _ _ _) hu6); have G6 := Lib.hid (G5.out.tail (Nat.le_of_lt LO.out) hu6); clear hr6 hu6))
  obtain ⟨g3, hg3⟩ : ∃ g3, w2.heap.size = g3 := ⟨_, rfl⟩
  rw [hg3] at S6 LO
  rw [hg3]
  have G3P := Lib.hid (Nat.ne_of_gt (Nat.lt_trans PL.out LO.out))
  clear S5 R1 R2 R5 P1 P2 P5 G1 G2 G5 NE hg3
  refine (rnumR p 2147483648 l1 e1 _ P6.out).mono ?_
  rw [H1.out]
  dsimp only
  rintro x w7 ⟨rfl, hP, hu⟩
  have S := S6.out.upd hu G3P.out
  have R := R6.out.upd hu PNE.out
  have hux : Upd w7 (w7.setCell ⟨g3, 1, none⟩ (.int .i64 (B1 : Int))) g3 := Upd.setCell _ _ _ _
  have S7 := Lib.hid (show Row (w7.setCell ⟨g3, 1, none⟩ (.int .i64 (B1 : Int))) g3 25 (tokC B0 B1 0 (.slice none 0 0) ⟨#[]⟩) from S.setV 1 _)
  have P7 := Lib.hid (hP.tok S (NB_tok _ _ _ _ _ _ _) hux)
  have R7 := Lib.hid (R.upd hux (Nat.ne_of_lt LO.out))
  have G7 := Lib.hid ((G6.out.trans (Gw.upd hu)).tail (Nat.le_of_lt LO.out) hux)
  have z := S.frozen 1
  obtain ⟨x0, x1, x2, x3, x4⟩ := S.t5
  clear S R hP hu hux
  go_wp2_with fail
  clear x0 x1 x2 x3 x4 z
  refine (rnumR p 2147483648 l2 e2 _ P7.out).mono ?_
  rw [H2.out]
  dsimp only
  rintro x w8 ⟨rfl, hP, hu⟩
  have S := S7.out.upd hu G3P.out
  have R := R7.out.upd hu PNE.out
  have hux : Upd w8 (w8.setCell ⟨g3, 2, none⟩ (.int .i64 (B2 : Int))) g3 := Upd.setCell _ _ _ _
  have S8 := Lib.hid (show Row (w8.setCell ⟨g3, 2, none⟩ (.int .i64 (B2 : Int))) g3 25 (tokC B0 B1 B2 (.slice none 0 0) ⟨#[]⟩) from S.setV 2 _)
  have P8 := Lib.hid (hP.tok S (NB_tok _ _ _ _ _ _ _) hux)
  have R8 := Lib.hid (R.upd hux (Nat.ne_of_lt LO.out))
  have G8 := Lib.hid ((G7.out.trans (Gw.upd hu)).tail (Nat.le_of_lt LO.out) hux)
  have z := S.frozen 2
  obtain ⟨x0, x1, x2, x3, x4⟩ := S.t5
  clear S R hP hu hux
  go_wp2_with fail
  clear x0 x1 x2 x3 x4 z
  refine (uall_read p l3 e3 _ P8.out).mono ?_
  rw [HQ.out]
  dsimp only
  rintro x w9 ⟨v, rfl, hf, hP, hg⟩
  obtain ⟨va, vn, vc, hvs⟩ := hf.slice
  subst hvs
  have S := S8.out.gw hg G3P.out
  have R := R8.out.gw hg PNE.out
  have hux : Upd w9 (w9.setCell ⟨g3, 3, none⟩ (.slice va vn vc)) g3 := Upd.setCell _ _ _ _
  have S9 := Lib.hid (show Row (w9.setCell ⟨g3, 3, none⟩ (.slice va vn vc)) g3 25 (tokC B0 B1 B2 (.slice va vn vc) ⟨#[]⟩) from S.setV 3 _)
  have P9 := Lib.hid (hP.tok S (NB_tok _ _ _ _ _ _ _) hux)
  have R9 := Lib.hid (R.upd hux (Nat.ne_of_lt LO.out))
  have G9 := Lib.hid ((G8.out.trans hg).tail (Nat.le_of_lt LO.out) hux)
  have F9 := Lib.hid ((hf.base (Nat.succ_le_of_lt S8.out.lt)).upd hux (Nat.lt_succ_self _))
  have z := S.frozen 3
  obtain ⟨x0, x1, x2, x3, x4⟩ := S.t5
  clear S R hP hg hux hf
  go_wp2_with fail
  clear x0 x1 x2 x3 x4 z
  refine (rtextR p 32 l5 e5 _ P9.out).mono ?_
  rw [H5.out]
  dsimp only
  rw [HT6.out]
  rintro x w10 ⟨rfl, hP, hu⟩
  have S := S9.out.upd hu G3P.out
  have R := R9.out.upd hu PNE.out
  have hux : Upd w10 (w10.setCell ⟨g3, 4, none⟩ (.string t6)) g3 := Upd.setCell _ _ _ _
  have S10 := Lib.hid (show Row (w10.setCell ⟨g3, 4, none⟩ (.string t6)) g3 25 (tokC B0 B1 B2 (.slice va vn vc) t6) from S.setV 4 _)
  have P10 := Lib.hid (hP.tok S (NB_tok _ _ _ _ _ _ _) hux)
  have R10 := Lib.hid (R.upd hux (Nat.ne_of_lt LO.out))
  have G10 := Lib.hid ((G9.out.trans (Gw.upd hu)).tail (Nat.le_of_lt LO.out) hux)
  have F10 := Lib.hid ((F9.out.rr P9.out (Gw.upd hu)).upd hux (Nat.lt_succ_self _))
  have z := S.frozen 4
  obtain ⟨x0, x1, x2, x3, x4⟩ := S.t5
  clear S R hP hu hux
  obtain ⟨a9, c9, hv9, hc9⟩ := F10.out.frc.cvs HQ3.out
  obtain ⟨rfl, rfl, rfl⟩ : va = a9 ∧ vn = LQ.length ∧ vc = c9 := by simpa using hv9
  have CV := Lib.hid hc9
  clear hv9 hc9 S6 S7 S8 S9 R6 R7 R8 R9 P6 P7 P8 P9 G6 G7 G8 G9 F9
  obtain ⟨wa, hwa⟩ : ∃ wa, wa = w10.setCell ⟨g3, 4, none⟩ (.string t6) := ⟨_, rfl⟩
  rw [← hwa] at S10 P10 R10 G10 F10 CV
  have HWA := Lib.hid hwa
  clear hwa
  by_cases he6 : e6 = 0
  · subst he6
    have hlq := HQ2.out rfl
    subst hlq
    rcases hok : tokOk B0 B1 B2 LQ t6 with _ | _
    · have hR := HR2.out
      rw [finT_no hok] at hR
      simp only [Prod.mk.injEq] at hR
      obtain ⟨⟨rfl, rfl, rfl, rfl, rfl⟩, rfl, rfl⟩ := hR
      have HE := Lib.hid (tokErr_no hok)
      clear hok HR2
      go_wp2_with (first
      | (go_at_call 28; rw [← HWA.out]; refine (rerr p l6 0 wa P10.out).mono ?_; rintro x wq ⟨rfl, rfl⟩; clear x0 x1 x2 x3 x4 z; obtain ⟨x0, x1, x2, x3, x4⟩ := S10.out.t5)
        | (go_at_call 41; refine (utcheck_any B0 B1 B2 va LQ.length vc LQ t6 wa CV.out).mono ?_; rw [HE.out]; rintro x w11 ⟨rfl, hb11⟩; have P11 := Lib.hid (P10.out.mono hb11); have R11 := Lib.hid (R10.out.below hb11 R10.out.lt); have G11 := Lib.hid (G10.out.trans (Gw.of_below hb11)); clear hb11 x0 x1 x2 x3 x4)
        | (go_at_call 54; refine (rfail p l6 0 3 w11 P11.out).mono ?_; rintro x w12 ⟨rfl, hP12, hu12⟩; have P12 := Lib.hid hP12; have R12 := Lib.hid (R11.out.upd hu12 PNE.out); have G12 := Lib.hid (G11.out.trans (Gw.upd hu12)); clear hP12 hu12)
        | (go_at_call 28; refine (rerr p (failL l6 0 3) (failE 0 3) w12 P12.out).mono ?_; rw [show failE 0 3 = 3 from rfl]; rintro x wq ⟨rfl, rfl⟩)
        | ((with_reducible refine build_row (o := ⟨some 32, _, _, _, _, _⟩) rfl _ _ rfl [.int .i64 0, .int .i64 0, .int .i64 0, .slice none 0 0, .string ⟨#[]⟩] ?_ ?_); (focus (go_simp; exact built_none)))
      | ((with_reducible refine store_row (o := ⟨none, _, _, _, _, _⟩) rfl _ (.tmp 2) _ rfl w.heap.size [.int .i64 0, .int .i64 0, .int .i64 0, .slice none 0 0, .string ⟨#[]⟩] ?_ ?_ 25 _ R12.out ?_ ?_ ?_ ?_); (focus go_simp); (focus go_simp); (focus (exact TS.out)); (focus rfl); (focus (exact tok_one _ _ _ _ _ _ _)); intro w13 hr13 hu13; have R13 := Lib.hid hr13; have P13 := Lib.hid (P12.out.tok R12.out (NB_tok _ _ _ _ _ _ _) hu13); have G13 := Lib.hid (G12.out.tail (Nat.le_refl _) hu13); clear hr13 hu13))
      exact bodyPost_ret (results_cell_row rfl _ _ w.heap.size 25 _ _ _ (by go_simp) R13.out Tryd.underlying25 rfl TS.out) rfl ⟨none, 0, 0, rfl, FrN.nil _ _, P13.out, G13.out⟩
    · have hR := HR2.out
      rw [finT_ok hok] at hR
      simp only [Prod.mk.injEq] at hR
      obtain ⟨⟨rfl, rfl, rfl, rfl, rfl⟩, rfl, rfl⟩ := hR
      have HE := Lib.hid (tokErr_ok hok)
      clear hok HR2
      go_wp2_with (first
      | (go_at_call 28; rw [← HWA.out]; refine (rerr p l6 0 wa P10.out).mono ?_; rintro x wq ⟨rfl, rfl⟩; clear x0 x1 x2 x3 x4 z; obtain ⟨x0, x1, x2, x3, x4⟩ := S10.out.t5)
        | (go_at_call 41; refine (utcheck_any B0 B1 B2 va LQ.length vc LQ t6 wa CV.out).mono ?_; rw [HE.out]; rintro x w11 ⟨rfl, hb11⟩; have P11 := Lib.hid (P10.out.mono hb11); have R11 := Lib.hid (R10.out.below hb11 R10.out.lt); have S11 := Lib.hid (S10.out.below hb11 S10.out.lt); have F11 := Lib.hid (F10.out.kept hb11); have G11 := Lib.hid (G10.out.trans (Gw.of_below hb11)); clear hb11 x0 x1 x2 x3 x4; obtain ⟨x0, x1, x2, x3, x4⟩ := S11.out.t5)
        | (go_at_call 28; refine (rerr p l6 0 w11 P11.out).mono ?_; rintro x wq ⟨rfl, rfl⟩)
        | ((with_reducible refine store_row (o := ⟨none, _, _, _, _, _⟩) rfl _ (.tmp 2) _ rfl w.heap.size (tokC B0 B1 B2 (.slice va LQ.length vc) t6) ?_ ?_ 25 _ R11.out ?_ ?_ ?_ ?_); (focus go_simp); (focus (go_simp; rfl)); (focus (exact TS.out)); (focus rfl); (focus (exact tok_one _ _ _ _ _ _ _)); intro w13 hr13 hu13; have R13 := Lib.hid hr13; have P13 := Lib.hid (P11.out.tok R11.out (NB_tok _ _ _ _ _ _ _) hu13); have F13 := Lib.hid (F11.out.upd hu13 (Nat.lt_succ_of_lt LO.out)); have G13 := Lib.hid (G11.out.tail (Nat.le_refl _) hu13); clear hr13 hu13))
      exact bodyPost_ret (results_cell_row rfl _ _ w.heap.size 25 _ _ _ (by go_simp) R13.out Tryd.underlying25 rfl TS.out) rfl ⟨va, LQ.length, vc, rfl, F13.out.base (Nat.le_succ_of_le (Nat.le_of_lt LO.out)), P13.out, G13.out⟩
  · have hR := HR2.out
    rw [finT_err he6] at hR
    simp only [Prod.mk.injEq] at hR
    obtain ⟨⟨rfl, rfl, rfl, rfl, rfl⟩, rfl, rfl⟩ := hR
    have hne : (e6 != 0) = true := by simpa using he6
    have hnf : (e6 == 0) = false := by simpa using he6
    clear HR2 he6
    go_wp2_with (first
      | (go_at_call 28; first | (rw [← HWA.out]; refine (rerr p l6 e6 wa P10.out).mono ?_; rintro x wq ⟨rfl, rfl⟩; clear x0 x1 x2 x3 x4 z; obtain ⟨x0, x1, x2, x3, x4⟩ := S10.out.t5) | (refine (rerr p l6 e6 wa P10.out).mono ?_; rintro x wq ⟨rfl, rfl⟩))
      | ((with_reducible refine build_row (o := ⟨some 32, _, _, _, _, _⟩) rfl _ _ rfl [.int .i64 0, .int .i64 0, .int .i64 0, .slice none 0 0, .string ⟨#[]⟩] ?_ ?_); (focus (go_simp; exact built_none)))
      | ((with_reducible refine store_row (o := ⟨none, _, _, _, _, _⟩) rfl _ (.tmp 2) _ rfl w.heap.size [.int .i64 0, .int .i64 0, .int .i64 0, .slice none 0 0, .string ⟨#[]⟩] ?_ ?_ 25 _ R10.out ?_ ?_ ?_ ?_); (focus go_simp); (focus go_simp); (focus (exact TS.out)); (focus rfl); (focus (exact tok_one _ _ _ _ _ _ _)); intro w13 hr13 hu13; have R13 := Lib.hid hr13; have P13 := Lib.hid (P10.out.tok R10.out (NB_tok _ _ _ _ _ _ _) hu13); have G13 := Lib.hid (G10.out.tail (Nat.le_refl _) hu13); clear hr13 hu13))
    exact bodyPost_ret (results_cell_row rfl _ _ w.heap.size 25 _ _ _ (by go_simp) R13.out Tryd.underlying25 rfl TS.out) rfl ⟨none, 0, 0, rfl, FrN.nil _ _, P13.out, G13.out⟩

end Go.Proofs.YtlclkikbocbenaaDoor.W
