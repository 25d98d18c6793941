/- THE LAW TokenCodes: any token has the bytes of the document, and any bytes are the token that it says. -/
import Derived.Test.YtlclkikbocbenaaDoorTokM
import Derived.Test.YtlclkikbocbenaaDoorTokR
import Derived.Test.YtlclkikbocbenaaDoorTokU
set_option linter.unusedSimpArgs false
set_option linter.unusedVariables false
namespace Go.Proofs.YtlclkikbocbenaaDoor.W
open Go Go.ChangeShapes Go.WideShapes Go.ChangeAt Go.RowKit
open Go.Proofs.YtlclkikbocbenaaDoor.P (enc)

theorem tokSame_self (l i e : Int) (L : List Cv) (t : ByteArray) : tokSame l i e L t l i e L t = true := by
  unfold tokSame
  rw [same_refl]
  simp
theorem rdT_fit (l : List UInt8) (e : Int) : ∀ c ∈ (rdT l e).1.2.2.2.1, c.fit := by
  unfold rdT finT
  intro c hc
  split at hc
  · split at hc
    · cases hc
    · exact rdN_fit _ _ _ c hc
  · cases hc

set_option maxRecDepth 100000 in
set_option maxHeartbeats 4000000 in
theorem law_TokenCodes (lane id epoch : Int) (a : Option Addr) (len cap : Nat) (L : List Cv) (tag : ByteArray) (a1 : Option Addr) (len1 cap1 : Nat) (zs : List Int) (w : World) (hK : Ks w) (h : Cvs w a len cap L) (hrow : IsRow .u8 w a1 len1 cap1 zs) :
    Calls Tryd.prog 5 #[.agg #[.int .i64 lane, .int .i64 id, .int .i64 epoch, .slice a len cap, .string tag], .slice a1 len1 cap1] w fun e w' => e = .returned (.bool true) ∧ Below w.heap.size w w' := by
  have hr := Rd.of_row hrow
  obtain ⟨b, hb⟩ : ∃ l, (zs.take len1).map (fun n => UInt8.ofNat n.toNat) = l := ⟨_, rfl⟩
  rw [hb] at hr
  clear hb hrow
  have HK := Lib.hid hK
  have H := Lib.hid h
  have HR := Lib.hid hr
  clear hK h hr
  rcases hfew : few8V L tag with _ | _
  · have FEW := Lib.hid hfew
    clear hfew
    go_enter Tryd.func5, Tryd.ntmps5
    go_wp2_with (first
      | ((with_reducible refine box_row (o := ⟨some 2, _, _, _, _, _⟩) rfl _ _ rfl [.int .i64 lane, .int .i64 id, .int .i64 epoch, .slice a len cap, .string tag] rfl ?_); intro w1 hr1 hb1 hz1; have T1 := Lib.hid hr1; have B1 := Lib.hid hb1; clear hr1 hb1 hz1; obtain ⟨x0, x1, x2, x3, x4⟩ := T1.out.t5)
      | (go_at_call 15; refine (few8_any lane id epoch a len cap L tag w1 (H.out.mono B1.out)).mono ?_; rw [FEW.out]; rintro e w2 ⟨rfl, hb2⟩; have B2 := Lib.hid (B1.out.trans (hb2.mono B1.out.size)); have T2 := Lib.hid (T1.out.below hb2 T1.out.lt); clear hb2 x0 x1 x2 x3 x4)
      | (go_at_call 8; refine (awake8 w2 (HK.out.below B2.out HK.out.pos)).mono ?_; rintro e w9 ⟨rfl, hb9⟩; have B9 := Lib.hid (B2.out.trans (hb9.mono B2.out.size)); clear hb9))
    go_ret
    exact ⟨rfl, B9.out⟩
  have FEW := Lib.hid hfew
  clear hfew
  by_cases h2000 : 2000 < len1
  · go_enter Tryd.func5, Tryd.ntmps5
    go_wp2_with (first
      | ((with_reducible refine box_row (o := ⟨some 2, _, _, _, _, _⟩) rfl _ _ rfl [.int .i64 lane, .int .i64 id, .int .i64 epoch, .slice a len cap, .string tag] rfl ?_); intro w1 hr1 hb1 hz1; have T1 := Lib.hid hr1; have B1 := Lib.hid hb1; clear hr1 hb1 hz1; obtain ⟨x0, x1, x2, x3, x4⟩ := T1.out.t5)
      | (go_at_call 15; refine (few8_any lane id epoch a len cap L tag w1 (H.out.mono B1.out)).mono ?_; rw [FEW.out]; rintro e w2 ⟨rfl, hb2⟩; have B2 := Lib.hid (B1.out.trans (hb2.mono B1.out.size)); have T2 := Lib.hid (T1.out.below hb2 T1.out.lt); clear hb2 x0 x1 x2 x3 x4)
      | (go_at_call 8; refine (awake8 w2 (HK.out.below B2.out HK.out.pos)).mono ?_; rintro e w9 ⟨rfl, hb9⟩; have B9 := Lib.hid (B2.out.trans (hb9.mono B2.out.size)); clear hb9))
    go_ret
    exact ⟨rfl, B9.out⟩
  have TZ := Lib.hid tok_zero
  have TS := Lib.hid tok_size
  have hfitR := rdT_fit b 0
  obtain ⟨⟨ln, idv, ep, LR, tR⟩, lR, eR, hRD⟩ : ∃ x l e, rdT b 0 = (x, l, e) := ⟨_, _, _, rfl⟩
  rw [hRD] at hfitR
  dsimp only at hfitR
  have HRD := Lib.hid hRD
  have HFR := Lib.hid hfitR
  obtain ⟨E, hE⟩ : ∃ E, putT b lane id epoch L tag = E := ⟨_, rfl⟩
  have HE := Lib.hid hE
  have HSM := Lib.hid (tokSame_self ln idv ep LR tR)
  clear hRD hfitR hE
  go_enter Tryd.func5, Tryd.ntmps5
  go_wp2_with (first
    | ((with_reducible refine box_row (o := ⟨some 2, _, _, _, _, _⟩) rfl _ _ rfl [.int .i64 lane, .int .i64 id, .int .i64 epoch, .slice a len cap, .string tag] rfl ?_); intro w1 hr1 hb1 hz1; have T1 := Lib.hid hr1; have B1 := Lib.hid hb1; clear hr1 hb1 hz1; obtain ⟨x0, x1, x2, x3, x4⟩ := T1.out.t5)
    | (go_at_call 15; refine (few8_any lane id epoch a len cap L tag w1 (H.out.mono B1.out)).mono ?_; rw [FEW.out]; rintro e w2 ⟨rfl, hb2⟩; have B2 := Lib.hid (B1.out.trans (hb2.mono B1.out.size)); have T2 := Lib.hid (T1.out.below hb2 T1.out.lt); clear hb2 x0 x1 x2 x3 x4)
    | (go_at_call 21; refine (popen a1 len1 cap1 b w2 (HR.out.mono B2.out) (by omega)).mono ?_; rintro x w3 ⟨p, rfl, hpl, hP, hb3⟩; have P3 := Lib.hid hP; have PB := Lib.hid (Nat.le_trans B2.out.size hpl); have PT := Lib.hid (Nat.ne_of_lt (Nat.lt_of_lt_of_le T2.out.lt hpl)); have T3 := Lib.hid (T2.out.below hb3 T2.out.lt); have B3 := Lib.hid (B2.out.trans (hb3.mono B2.out.size)); clear hP hpl hb3)
    | (go_at_call 22; refine (ropen a1 len1 cap1 b w3 (HR.out.mono B3.out) (by omega)).mono ?_; rintro x w4 ⟨q, rfl, hql, hQ, hb4⟩; have Q4 := Lib.hid hQ; have P4 := Lib.hid (P3.out.mono hb4); have QB := Lib.hid (Nat.le_trans B3.out.size hql); have QT := Lib.hid (Nat.ne_of_lt (Nat.lt_of_lt_of_le T3.out.lt hql)); have T4 := Lib.hid (T3.out.below hb4 T3.out.lt); have B4 := Lib.hid (B3.out.trans (hb4.mono B3.out.size)); clear hQ hql hb4)
    | (go_at_call 23; refine (tkread_any p b 0 w4 P4.out ln idv ep LR tR lR eR HRD.out).mono ?_; rintro x w5 ⟨xa, xn, xc, rfl, hf, hP, hg⟩; have Q5 := Lib.hid (Q4.out.gw P4.out hg); have P5 := Lib.hid hP; have F5 := Lib.hid hf; have T5 := Lib.hid (T4.out.gw hg PT.out); have B5 := Lib.hid (B4.out.trans (hg.below PB.out B4.out.size)); clear hf hP hg)
    | (go_at_call 24; refine (utread_any q b 0 w5 Q5.out ln idv ep LR tR lR eR HRD.out).mono ?_; rintro x w6 ⟨ya, yn, yc, rfl, hf, hQ, hg⟩; have Q6 := Lib.hid hQ; have P6 := Lib.hid (P5.out.gw Q5.out hg); have F6 := Lib.hid (F5.out.rr Q5.out hg); have E6 := Lib.hid hf; have T6 := Lib.hid (T5.out.gw hg QT.out); have B6 := Lib.hid (B5.out.trans (hg.below QB.out B5.out.size)); clear hf hQ hg)
    | ((with_reducible refine alloc_row (o := ⟨some 7, _, _, _, _, _⟩) rfl _ rfl _ TZ.out ?_); intro w7 hr7 hb7 hz7; have X7 := Lib.hid hr7; have D7 := Lib.hid hb7; clear hr7 hb7 hz7)
    | ((with_reducible refine alloc_row (o := ⟨some 8, _, _, _, _, _⟩) rfl _ rfl _ TZ.out ?_); intro w8 hr8 hb8 hz8; have Y8 := Lib.hid hr8; have X8 := Lib.hid (X7.out.below hb8 X7.out.lt); have D8 := Lib.hid (D7.out.trans (hb8.mono D7.out.size)); have NE := Lib.hid (Nat.ne_of_lt X7.out.lt); clear hr8 hb8 hz8)
    | ((with_reducible refine store_row (o := ⟨none, _, _, _, _, _⟩) rfl _ (.tmp 7) _ rfl w6.heap.size (tokC ln idv ep (.slice xa xn xc) tR) ?_ ?_ 25 _ X8.out ?_ ?_ ?_ ?_); (focus go_simp); (focus go_simp); (focus (exact TS.out)); (focus rfl); (focus (exact tok_one _ _ _ _ _ _ _)); intro w9 hr9 hu9; have X9 := Lib.hid hr9; have Y9 := Lib.hid (Y8.out.upd hu9 NE.out.symm); have D9 := Lib.hid (D8.out.trans (hu9.below (Nat.le_refl _))); clear hr9 hu9)
    | ((with_reducible refine store_row (o := ⟨none, _, _, _, _, _⟩) rfl _ (.tmp 8) _ rfl w7.heap.size (tokC ln idv ep (.slice ya yn yc) tR) ?_ ?_ 25 _ Y9.out ?_ ?_ ?_ ?_); (focus go_simp); (focus go_simp); (focus (exact TS.out)); (focus rfl); (focus (exact tok_one _ _ _ _ _ _ _)); intro w10 hr10 hu10; have Y10 := Lib.hid hr10; have X10 := Lib.hid (X9.out.upd hu10 NE.out); have D10 := Lib.hid (D9.out.trans (hu10.below D7.out.size)); clear hr10 hu10))
  obtain ⟨fa, fc, hv1, hc1⟩ := F6.out.frc.cvs HFR.out
  obtain ⟨rfl, rfl, rfl⟩ : xa = fa ∧ xn = LR.length ∧ xc = fc := by simpa using hv1
  obtain ⟨ga, gc, hv2, hc2⟩ := E6.out.frc.cvs HFR.out
  obtain ⟨rfl, rfl, rfl⟩ : ya = ga ∧ yn = LR.length ∧ yc = gc := by simpa using hv2
  have CX := Lib.hid (hc1.mono D10.out)
  have CY := Lib.hid (hc2.mono D10.out)
  have P10 := Lib.hid (P6.out.mono D10.out)
  have Q10 := Lib.hid (Q6.out.mono D10.out)
  have T10 := Lib.hid (T6.out.below D10.out T6.out.lt)
  have B10 := Lib.hid (B6.out.trans (D10.out.mono B6.out.size))
  clear hv1 hc1 hv2 hc2 F5 F6 E6 P3 P4 P5 P6 Q4 Q5 Q6 T1 T2 T3 T4 T5 T6 B1 B2 B3 B4 B5 B6 X7 X8 X9 Y8 Y9 D7 D8 D9 D10
  have D10 : Hid (Below w10.heap.size w10 w10.drew) := Lib.hid (Below.refl _ _).drew
  refine region_h (fun v => Below w10.heap.size w10 v) (by kernel_rfl) (by kernel_rfl) D10.out ?_
  obtain ⟨wd, hwd⟩ : ∃ wd, w10.drew = wd := ⟨_, rfl⟩
  rw [hwd] at D10 ⊢
  clear hwd
  (refine h_read 0 rfl (by kernel_rfl) (by kernel_rfl) (h_free rfl) ?_ ?_ ?_; rotate_left; (focus (intro v hv; go_simp; rfl)); go_simp)
  (refine h_read 1 rfl (by kernel_rfl) (by kernel_rfl) (h_free rfl) ?_ ?_ ?_; rotate_left; (focus (intro v hv; obtain ⟨f0, f1, f2, f3, f4⟩ := (T10.out.below hv T10.out.lt).t5; obtain ⟨x0, x1, x2, x3, x4⟩ := (X10.out.below hv X10.out.lt).t5; obtain ⟨y0, y1, y2, y3, y4⟩ := (Y10.out.below hv Y10.out.lt).t5; go_simp; rfl)); go_simp)
  (refine h_read 3 rfl (by kernel_rfl) (by kernel_rfl) (h_free rfl) ?_ ?_ ?_; rotate_left; (focus (intro v hv; go_simp; rfl)); go_simp)
  (refine h_read 4 rfl (by kernel_rfl) (by kernel_rfl) (h_free rfl) ?_ ?_ ?_; rotate_left; (focus (intro v hv; obtain ⟨f0, f1, f2, f3, f4⟩ := (T10.out.below hv T10.out.lt).t5; obtain ⟨x0, x1, x2, x3, x4⟩ := (X10.out.below hv X10.out.lt).t5; obtain ⟨y0, y1, y2, y3, y4⟩ := (Y10.out.below hv Y10.out.lt).t5; go_simp; rfl)); go_simp)
  (refine h_call 2 rfl (by kernel_rfl) (h_free rfl) 25 ?_ ?_ ?_; rotate_left; (focus (go_simp; rfl)))
  refine (tkput_any a1 len1 cap1 b lane id epoch a len cap L tag wd ((HR.out.mono B10.out).mono D10.out) (by omega) ((H.out.mono B10.out).mono D10.out)).mono ?_
  rw [HE.out]
  rintro e w11 ⟨v11, rfl, hf, hb⟩
  obtain ⟨a11, c11, hv, hr⟩ := hf.form' E.length rfl
  subst hv
  have R11 := Lib.hid hr
  have D11 := Lib.hid (D10.out.trans (hb.mono D10.out.size))
  clear hf hb hr
  refine ⟨_, rfl, D11.out, ?_⟩
  go_simp
  (refine h_call 5 rfl (by kernel_rfl) (h_free rfl) 26 ?_ ?_ ?_; rotate_left; (focus (go_simp; rfl)))
  refine (utput_any a1 len1 cap1 b lane id epoch a len cap L tag w11 ((HR.out.mono B10.out).mono D11.out) (by omega) ((H.out.mono B10.out).mono D11.out)).mono ?_
  rw [HE.out]
  rintro e w12 ⟨v12, rfl, hf, hb⟩
  obtain ⟨a12, c12, hv, hr⟩ := hf.form' E.length rfl
  subst hv
  have R12 := Lib.hid hr
  have D12 := Lib.hid (D11.out.trans (hb.mono D11.out.size))
  have RR11 := Lib.hid (R11.out.mono hb)
  clear hf hb hr
  refine ⟨_, rfl, D12.out, ?_⟩
  go_simp
  (refine h_call 6 rfl (by kernel_rfl) (h_free rfl) 12 ?_ ?_ ?_; rotate_left; (focus (go_simp; rfl)))
  refine (sequal a11 a12 E.length E.length c11 c12 E E w12 RR11.out R12.out).mono ?_
  rw [decide_eq_true (rfl : E = E)]
  rintro e w13 ⟨rfl, hq⟩
  have D13 := Lib.hid (D12.out.trans (hq.below w10.heap.size))
  clear hq
  refine ⟨_, rfl, D13.out, ?_⟩
  go_simp
  (refine h_read 7 rfl (by kernel_rfl) (by kernel_rfl) (h_free rfl) ?_ ?_ ?_; rotate_left; (focus (intro v hv; go_simp; rfl)); go_simp)
  (refine h_read 8 rfl (by kernel_rfl) (by kernel_rfl) ?_ ?_ ?_ ?_; (focus (go_simp; done)); rotate_left; (focus (intro v hv; obtain ⟨f0, f1, f2, f3, f4⟩ := (T10.out.below hv T10.out.lt).t5; obtain ⟨x0, x1, x2, x3, x4⟩ := (X10.out.below hv X10.out.lt).t5; obtain ⟨y0, y1, y2, y3, y4⟩ := (Y10.out.below hv Y10.out.lt).t5; go_simp; rfl)); go_simp)
  (refine h_read 9 rfl (by kernel_rfl) (by kernel_rfl) ?_ ?_ ?_ ?_; (focus (go_simp; done)); rotate_left; (focus (intro v hv; obtain ⟨f0, f1, f2, f3, f4⟩ := (T10.out.below hv T10.out.lt).t5; obtain ⟨x0, x1, x2, x3, x4⟩ := (X10.out.below hv X10.out.lt).t5; obtain ⟨y0, y1, y2, y3, y4⟩ := (Y10.out.below hv Y10.out.lt).t5; go_simp; rfl)); go_simp)
  (refine h_call 10 rfl (by kernel_rfl) ?_ 11 ?_ ?_ ?_; (focus (go_simp; done)); rotate_left; (focus (go_simp; rfl)))
  refine (utsame_any ln idv ep xa LR.length xc LR tR ln idv ep ya LR.length yc LR tR w13 (CX.out.mono D13.out) (CY.out.mono D13.out)).mono ?_
  rw [HSM.out]
  rintro e w14 ⟨rfl, hb⟩
  have D14 := Lib.hid (D13.out.trans (hb.mono D13.out.size))
  have P14 := Lib.hid (P10.out.mono D14.out)
  have Q14 := Lib.hid (Q10.out.mono D14.out)
  clear hb
  refine ⟨_, rfl, D14.out, ?_⟩
  go_simp
  (refine h_read 11 rfl (by kernel_rfl) (by kernel_rfl) (h_free rfl) ?_ ?_ ?_; rotate_left; (focus (intro v hv; go_simp; rfl)); go_simp)
  (refine h_read 12 rfl (by kernel_rfl) (by kernel_rfl) (h_free rfl) ?_ ?_ ?_; rotate_left; (focus (intro v hv; go_simp; rfl)); go_simp)
  (refine h_read 13 rfl (by kernel_rfl) (by kernel_rfl) ?_ ?_ ?_ ?_; (focus (go_simp; done)); rotate_left; (focus (intro v hv; go_simp; rfl)); go_simp)
  (refine h_read 15 rfl (by kernel_rfl) (by kernel_rfl) ?_ ?_ ?_ ?_; (focus (go_simp; done)); rotate_left; (focus (intro v hv; go_simp; rfl)); go_simp)
  (refine h_call 14 rfl (by kernel_rfl) ?_ 27 ?_ ?_ ?_; (focus (go_simp; done)); rotate_left; (focus (go_simp; rfl)))
  refine (perr p lR eR w14 P14.out).mono ?_
  rintro e wq ⟨rfl, rfl⟩
  refine ⟨_, rfl, D14.out, ?_⟩
  go_simp
  (refine h_call 16 rfl (by kernel_rfl) ?_ 28 ?_ ?_ ?_; (focus (go_simp; done)); rotate_left; (focus (go_simp; rfl)))
  refine (rerr q lR eR w14 Q14.out).mono ?_
  rintro e wq ⟨rfl, rfl⟩
  refine ⟨_, rfl, D14.out, ?_⟩
  go_simp
  (refine h_read 17 rfl (by kernel_rfl) (by kernel_rfl) ?_ ?_ ?_ ?_; (focus (go_simp; done)); rotate_left; (focus (intro v hv; go_simp; rfl)); go_simp)
  (refine h_read 18 rfl (by kernel_rfl) (by kernel_rfl) (h_free rfl) ?_ ?_ ?_; rotate_left; (focus (intro v hv; go_simp; rfl)); go_simp)
  (refine h_read 19 rfl (by kernel_rfl) (by kernel_rfl) (h_free rfl) ?_ ?_ ?_; rotate_left; (focus (intro v hv; go_simp; rfl)); go_simp)
  (refine h_read 20 rfl (by kernel_rfl) (by kernel_rfl) ?_ ?_ ?_ ?_; (focus (go_simp; done)); rotate_left; (focus (intro v hv; go_simp; rfl)); go_simp)
  (refine h_read 22 rfl (by kernel_rfl) (by kernel_rfl) ?_ ?_ ?_ ?_; (focus (go_simp; done)); rotate_left; (focus (intro v hv; go_simp; rfl)); go_simp)
  (refine h_call 21 rfl (by kernel_rfl) ?_ 29 ?_ ?_ ?_; (focus (go_simp; done)); rotate_left; (focus (go_simp; rfl)))
  refine (pleft p lR eR w14 P14.out).mono ?_
  rintro e wq ⟨rfl, rfl⟩
  refine ⟨_, rfl, D14.out, ?_⟩
  go_simp
  (refine h_call 23 rfl (by kernel_rfl) ?_ 30 ?_ ?_ ?_; (focus (go_simp; done)); rotate_left; (focus (go_simp; rfl)))
  refine (rleft q lR eR w14 Q14.out).mono ?_
  rintro e wq ⟨rfl, rfl⟩
  refine ⟨_, rfl, D14.out, ?_⟩
  go_simp
  (refine h_read 24 rfl (by kernel_rfl) (by kernel_rfl) ?_ ?_ ?_ ?_; (focus (go_simp; done)); rotate_left; (focus (intro v hv; go_simp; rfl)); go_simp)
  (refine h_read 25 rfl (by kernel_rfl) (by kernel_rfl) (h_free rfl) ?_ ?_ ?_; rotate_left; (focus (intro v hv; go_simp; rfl)); go_simp)
  (refine h_read 26 rfl (by kernel_rfl) (by kernel_rfl) (h_free rfl) ?_ ?_ ?_; rotate_left; (focus (intro v hv; go_simp; rfl)); go_simp)
  (refine h_call 27 rfl (by kernel_rfl) ?_ 8 ?_ ?_ ?_; (focus (go_simp; done)); rotate_left; (focus (go_simp; rfl)))
  refine (awake8 w14 (HK.out.below (B10.out.trans (D14.out.mono B10.out.size)) HK.out.pos)).mono ?_
  rintro e w15 ⟨rfl, hb⟩
  have D15 := Lib.hid (D14.out.trans (hb.mono D14.out.size))
  clear hb
  refine ⟨_, rfl, D15.out, ?_⟩
  go_simp
  (refine h_read 28 rfl (by kernel_rfl) (by kernel_rfl) (h_free rfl) ?_ ?_ ?_; rotate_left; (focus (intro v hv; go_simp; rfl)); go_simp)
  (refine h_read 29 rfl (by kernel_rfl) (by kernel_rfl) (h_free rfl) ?_ ?_ ?_; rotate_left; (focus (intro v hv; go_simp; rfl)); go_simp)
  refine h_done (by kernel_rfl) ?_
  go_wp2_with fail
  go_ret
  exact ⟨rfl, B10.out.trans (D15.out.mono B10.out.size)⟩

end Go.Proofs.YtlclkikbocbenaaDoor.W
