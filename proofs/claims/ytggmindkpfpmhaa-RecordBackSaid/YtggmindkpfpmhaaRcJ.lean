/- LAYER 11 (record): the law RecordBack. -/
import Derived.Test.YtggmindkpfpmhaaRcB
import Derived.Test.YtggmindkpfpmhaaRcK
set_option linter.unusedSimpArgs false
set_option linter.unusedVariables false
namespace Go.Proofs.Ytggmindkpfpmhaa.W
open Go Go.ChangeShapes Go.WideShapes Go.ChangeAt Go.RowKit
open Go.Proofs.Ytggmindkpfpmhaa.P (enc dec)

set_option maxRecDepth 100000 in
set_option maxHeartbeats 16000000 in
theorem law_RecordBack (r : Rc) (ba : Option Addr) (bm bc : Nat) (zs : List Int) (w : World) (wr : ∃ l p, RcF w r l p) (wb : IsRow .u8 w ba bm bc zs) :
    Calls Try.prog 5 #[.agg r.cells.toArray, .slice ba bm bc] w fun x w' => x = .returned (.bool true) ∧ Below w.heap.size w w' := by
  obtain ⟨l, p, hr⟩ := wr
  have hB0 := Rd.of_row wb
  obtain ⟨lb, hlb⟩ : ∃ l, ((zs.take bm).map fun n => UInt8.ofNat n.toNat) = l := ⟨_, rfl⟩
  rw [hlb] at hB0
  have HRE := Lib.hid hr.e.rd
  have HRS := Lib.hid hr.rd
  have HB := Lib.hid hB0
  have hlen := hr.e.rd.hlen
  have hsen := hr.rd.hlen
  have RZ := Lib.hid rc_zero
  have RS := Lib.hid rc_size
  clear wb hlb hB0 hr
  obtain ⟨fr, hfr⟩ : ∃ o, fewB r = o := ⟨_, rfl⟩
  have HFR := Lib.hid hfr
  clear hfr
  cases fr
  ·
    go_enter Try.func5, Try.ntmps5
    go_wp2_with (first
      | (with_reducible refine box_row (o := ⟨some 2, _, _, _, _, _⟩) rfl _ _ rfl r.cells rfl ?_; intro w1 hr1 hb1 hz1; have E1 := Lib.hid hr1; have B1 := Lib.hid hb1; clear hr1 hb1 hz1)
      | ((with_reducible refine load_row (o := ⟨some 13, _, _, _, _, _⟩) rfl _ _ rfl w.heap.size ?_ _ r.cells _ E1.out Try.underlying26 rfl ?_ ?_); (focus go_simp); (focus (exact RS.out)))
      | (go_at_call 8; (with_reducible refine (rfew r w1).mono ?_); rw [HFR.out]; rintro x w2 ⟨rfl, hb⟩; have E2 := Lib.hid (E1.out.below hb E1.out.lt); have B2 := Lib.hid (B1.out.trans (hb.mono B1.out.size)); clear hb)
      | (go_at_call 9; (with_reducible refine (awake11 w2).mono ?_); rintro x wz ⟨rfl, hb⟩; have Bz := Lib.hid (B2.out.trans (hb.mono B2.out.size)); clear hb))
    go_ret
    exact ⟨rfl, Bz.out⟩
  by_cases hbm : 6000 < (bm : Int)
  ·
    go_enter Try.func5, Try.ntmps5
    go_wp2_with (first
      | (with_reducible refine box_row (o := ⟨some 2, _, _, _, _, _⟩) rfl _ _ rfl r.cells rfl ?_; intro w1 hr1 hb1 hz1; have E1 := Lib.hid hr1; have B1 := Lib.hid hb1; clear hr1 hb1 hz1)
      | ((with_reducible refine load_row (o := ⟨some 13, _, _, _, _, _⟩) rfl _ _ rfl w.heap.size ?_ _ r.cells _ E1.out Try.underlying26 rfl ?_ ?_); (focus go_simp); (focus (exact RS.out)))
      | (go_at_call 8; (with_reducible refine (rfew r w1).mono ?_); rw [HFR.out]; rintro x w2 ⟨rfl, hb⟩; have E2 := Lib.hid (E1.out.below hb E1.out.lt); have B2 := Lib.hid (B1.out.trans (hb.mono B1.out.size)); clear hb)
      | (go_at_call 9; (with_reducible refine (awake11 w2).mono ?_); rintro x wz ⟨rfl, hb⟩; have Bz := Lib.hid (B2.out.trans (hb.mono B2.out.size)); clear hb))
    go_ret
    exact ⟨rfl, Bz.out⟩
  have HM := Lib.hid (show bm ≤ 140737488355000 by omega)
  obtain ⟨G, v, hd⟩ : ∃ x y, decV (rdR lb 0) = (x, y) := ⟨_, _, rfl⟩
  have HD := Lib.hid hd
  have hv : v = 0 ∨ v ≠ 0 := by by_cases h : v = 0 <;> simp [h]
  rcases chk01R r l p with h0 | h1
  · obtain ⟨F, hF, hS⟩ := dec_enc r l p hlen hsen h0
    have hpl := enc_small r l p hlen hsen h0
    obtain ⟨pe, hpe⟩ : ∃ o, encR r l p = o := ⟨_, rfl⟩
    rw [hpe] at hF hpl
    have HCK := Lib.hid h0
    have HPE := Lib.hid (show encV r l p = pe by unfold encV; rw [if_pos h0]; exact hpe)
    have HPL := Lib.hid hpl
    have HF := Lib.hid hF
    have HS := Lib.hid hS
    clear h0 hpe hF hpl hS hd
    rcases hv with rfl | hv
    ·
      go_enter Try.func5, Try.ntmps5
      go_wp2_with (first
        | (with_reducible refine box_row (o := ⟨some 2, _, _, _, _, _⟩) rfl _ _ rfl r.cells rfl ?_; intro w1 hr1 hb1 hz1; have E1 := Lib.hid hr1; have B1 := Lib.hid hb1; clear hr1 hb1 hz1)
        | ((with_reducible refine load_row (o := ⟨some 13, _, _, _, _, _⟩) rfl _ _ rfl w.heap.size ?_ _ r.cells _ E1.out Try.underlying26 rfl ?_ ?_); (focus go_simp); (focus (exact RS.out)))
        | (go_at_call 8; (with_reducible refine (rfew r w1).mono ?_); rw [HFR.out]; rintro x w2 ⟨rfl, hb⟩; have E2 := Lib.hid (E1.out.below hb E1.out.lt); have B2 := Lib.hid (B1.out.trans (hb.mono B1.out.size)); clear hb)
        | ((with_reducible refine load_row (o := ⟨some 23, _, _, _, _, _⟩) rfl _ _ rfl w.heap.size ?_ _ r.cells _ E2.out Try.underlying26 rfl ?_ ?_); (focus go_simp); (focus (exact RS.out)))
        | (go_at_call 10; (with_reducible refine (renc r l p w2 (HRE.out.mono B2.out) (HRS.out.mono B2.out)).mono ?_); rw [HCK.out, HPE.out]; rintro x w3 ⟨xa, xm, xc, rfl, hx, hb⟩; have X3 := Lib.hid hx; have XL := Lib.hid (show xm ≤ 140737488355000 by have := HPL.out; have := hx.hlen; omega); have E3 := Lib.hid (E2.out.below hb E2.out.lt); have B3 := Lib.hid (B2.out.trans (hb.mono B2.out.size)); clear hb hx)
        | (go_at_call 17; (with_reducible refine (rdecode xa xm xc pe w3 X3.out XL.out F 0 HF.out).mono ?_); rintro x wa ⟨ea, en, ec, a', n', c', rfl, h1, h2, hb⟩; have Da := Lib.hid h1; have Sa := Lib.hid h2; have Ea := Lib.hid (E3.out.below hb E3.out.lt); have Ba := Lib.hid (B3.out.trans (hb.mono B3.out.size)); clear h1 h2 hb)
        | ((with_reducible refine alloc_row (o := ⟨some 7, _, _, _, _, _⟩) rfl _ rfl _ RZ.out ?_); intro wb hr hb hz; have Hb := Lib.hid hr; have Eb := Lib.hid (Ea.out.below hb Ea.out.lt); have EL := Lib.hid (show w.heap.size < wa.heap.size from Ea.out.lt); have Db := Lib.hid (Da.out.mono hb); have Sb := Lib.hid (Sa.out.mono hb); have Bb := Lib.hid (Ba.out.trans (hb.mono Ba.out.size)); clear hr hb hz)
        | ((with_reducible refine store_row (o := ⟨none, _, _, _, _, _⟩) rfl _ (.tmp 7) _ rfl wa.heap.size (F.rc ea en ec a' n' c').cells ?_ ?_ 26 _ Hb.out ?_ ?_ ?_ ?_); (focus go_simp); (focus (first | (go_simp; done) | (go_simp; rfl))); (focus (exact RS.out)); (focus rfl); (focus (exact rc_one _)); intro wc hr hu; have Ec := Lib.hid (Eb.out.upd hu (by have := EL.out; omega)); have Dc := Lib.hid (Db.out.put Hb.out (NB_rc _) hu); have Sc := Lib.hid (Sb.out.put Hb.out (NB_rc _) hu); have Bc := Lib.hid (Bb.out.trans (hu.below Ba.out.size)); obtain ⟨c0, c1, c2, c3, c4, c5, c6, c7, c8, c9⟩ := hr.q10; obtain ⟨d0, d1, d2, d3, d4, d5, d6, d7, d8, d9⟩ := Ec.out.q10; clear hr hu)
        | (go_at_call 15; refine (rsame (F.rc ea en ec a' n' c') r F.dt l F.sn p wc Dc.out (HRE.out.mono Bc.out) Sc.out (HRS.out.mono Bc.out)).mono ?_; rw [HS.out]; rintro x wd ⟨rfl, hb⟩; have Bd := Lib.hid (Bc.out.trans (hb.mono Bc.out.size)); clear hb c0 c1 c2 c3 c4 c5 c6 c7 c8 c9 d0 d1 d2 d3 d4 d5 d6 d7 d8 d9)
        | (go_at_call 17; (with_reducible refine (rdecode ba bm bc lb wd (HB.out.mono Bd.out) HM.out G 0 HD.out).mono ?_); rintro x we ⟨ga, gn, gc, b', m', k', rfl, h1, h2, hb⟩; have De := Lib.hid h1; have Se := Lib.hid h2; have Be := Lib.hid (Bd.out.trans (hb.mono Bd.out.size)); clear h1 h2 hb)
        | ((with_reducible refine alloc_row (o := ⟨some 9, _, _, _, _, _⟩) rfl _ rfl _ RZ.out ?_); intro wf hr hb hz; have Hf := Lib.hid hr; have Df := Lib.hid (De.out.mono hb); have Sf := Lib.hid (Se.out.mono hb); have Bf := Lib.hid (Be.out.trans (hb.mono Be.out.size)); clear hr hb hz)
        | ((with_reducible refine store_row (o := ⟨none, _, _, _, _, _⟩) rfl _ (.tmp 9) _ rfl we.heap.size (G.rc ga gn gc b' m' k').cells ?_ ?_ 26 _ Hf.out ?_ ?_ ?_ ?_); (focus go_simp); (focus (first | (go_simp; done) | (go_simp; rfl))); (focus (exact RS.out)); (focus rfl); (focus (exact rc_one _)); intro wg hr hu; have Hg := Lib.hid hr; have Dg := Lib.hid (Df.out.put Hf.out (NB_rc _) hu); have Sg := Lib.hid (Sf.out.put Hf.out (NB_rc _) hu); have Bg := Lib.hid (Bf.out.trans (hu.below Be.out.size)); have HG := Lib.hid (enc_dec HD.out Dg.out Sg.out); clear hr hu)
        | ((with_reducible refine load_row (o := ⟨some 50, _, _, _, _, _⟩) rfl _ _ rfl we.heap.size ?_ _ (G.rc ga gn gc b' m' k').cells _ Hg.out Try.underlying26 rfl ?_ ?_); (focus go_simp); (focus (exact RS.out)))
        | (go_at_call 10; (with_reducible refine (renc (G.rc ga gn gc b' m' k') G.dt G.sn wg ?_ ?_).mono ?_); (focus (exact Dg.out)); (focus (exact Sg.out)); rw [HG.out.1, HG.out.2]; rintro x wh ⟨ya, ym, yc, rfl, hy, hb⟩; obtain rfl : ym = bm := (by rw [← hy.hlen]; exact HB.out.hlen); have Yh := Lib.hid hy; have Bh := Lib.hid (Bg.out.trans (hb.mono Bg.out.size)); clear hb hy)
        | (go_at_call 12; (with_reducible refine (sequal ya ba ym ym yc bc lb lb wh Yh.out (HB.out.mono Bh.out)).mono ?_); rw [decide_eq_true rfl]; rintro x wi ⟨rfl, hq⟩; have Bi := Lib.hid (Bh.out.trans (hq.below _)); clear hq)
        | (go_at_call 9; (with_reducible refine (awake11 wi).mono ?_); rintro x wz ⟨rfl, hb⟩; have Bz := Lib.hid (Bi.out.trans (hb.mono Bi.out.size)); clear hb))
      go_ret
      exact ⟨rfl, Bz.out⟩
    · have hne : (v == 0) = false := by simpa using hv
      go_enter Try.func5, Try.ntmps5
      go_wp2_with (first
        | (with_reducible refine box_row (o := ⟨some 2, _, _, _, _, _⟩) rfl _ _ rfl r.cells rfl ?_; intro w1 hr1 hb1 hz1; have E1 := Lib.hid hr1; have B1 := Lib.hid hb1; clear hr1 hb1 hz1)
        | ((with_reducible refine load_row (o := ⟨some 13, _, _, _, _, _⟩) rfl _ _ rfl w.heap.size ?_ _ r.cells _ E1.out Try.underlying26 rfl ?_ ?_); (focus go_simp); (focus (exact RS.out)))
        | (go_at_call 8; (with_reducible refine (rfew r w1).mono ?_); rw [HFR.out]; rintro x w2 ⟨rfl, hb⟩; have E2 := Lib.hid (E1.out.below hb E1.out.lt); have B2 := Lib.hid (B1.out.trans (hb.mono B1.out.size)); clear hb)
        | ((with_reducible refine load_row (o := ⟨some 23, _, _, _, _, _⟩) rfl _ _ rfl w.heap.size ?_ _ r.cells _ E2.out Try.underlying26 rfl ?_ ?_); (focus go_simp); (focus (exact RS.out)))
        | (go_at_call 10; (with_reducible refine (renc r l p w2 (HRE.out.mono B2.out) (HRS.out.mono B2.out)).mono ?_); rw [HCK.out, HPE.out]; rintro x w3 ⟨xa, xm, xc, rfl, hx, hb⟩; have X3 := Lib.hid hx; have XL := Lib.hid (show xm ≤ 140737488355000 by have := HPL.out; have := hx.hlen; omega); have E3 := Lib.hid (E2.out.below hb E2.out.lt); have B3 := Lib.hid (B2.out.trans (hb.mono B2.out.size)); clear hb hx)
        | (go_at_call 17; (with_reducible refine (rdecode xa xm xc pe w3 X3.out XL.out F 0 HF.out).mono ?_); rintro x wa ⟨ea, en, ec, a', n', c', rfl, h1, h2, hb⟩; have Da := Lib.hid h1; have Sa := Lib.hid h2; have Ea := Lib.hid (E3.out.below hb E3.out.lt); have Ba := Lib.hid (B3.out.trans (hb.mono B3.out.size)); clear h1 h2 hb)
        | ((with_reducible refine alloc_row (o := ⟨some 7, _, _, _, _, _⟩) rfl _ rfl _ RZ.out ?_); intro wb hr hb hz; have Hb := Lib.hid hr; have Eb := Lib.hid (Ea.out.below hb Ea.out.lt); have EL := Lib.hid (show w.heap.size < wa.heap.size from Ea.out.lt); have Db := Lib.hid (Da.out.mono hb); have Sb := Lib.hid (Sa.out.mono hb); have Bb := Lib.hid (Ba.out.trans (hb.mono Ba.out.size)); clear hr hb hz)
        | ((with_reducible refine store_row (o := ⟨none, _, _, _, _, _⟩) rfl _ (.tmp 7) _ rfl wa.heap.size (F.rc ea en ec a' n' c').cells ?_ ?_ 26 _ Hb.out ?_ ?_ ?_ ?_); (focus go_simp); (focus (first | (go_simp; done) | (go_simp; rfl))); (focus (exact RS.out)); (focus rfl); (focus (exact rc_one _)); intro wc hr hu; have Ec := Lib.hid (Eb.out.upd hu (by have := EL.out; omega)); have Dc := Lib.hid (Db.out.put Hb.out (NB_rc _) hu); have Sc := Lib.hid (Sb.out.put Hb.out (NB_rc _) hu); have Bc := Lib.hid (Bb.out.trans (hu.below Ba.out.size)); obtain ⟨c0, c1, c2, c3, c4, c5, c6, c7, c8, c9⟩ := hr.q10; obtain ⟨d0, d1, d2, d3, d4, d5, d6, d7, d8, d9⟩ := Ec.out.q10; clear hr hu)
        | (go_at_call 15; refine (rsame (F.rc ea en ec a' n' c') r F.dt l F.sn p wc Dc.out (HRE.out.mono Bc.out) Sc.out (HRS.out.mono Bc.out)).mono ?_; rw [HS.out]; rintro x wd ⟨rfl, hb⟩; have Bd := Lib.hid (Bc.out.trans (hb.mono Bc.out.size)); clear hb c0 c1 c2 c3 c4 c5 c6 c7 c8 c9 d0 d1 d2 d3 d4 d5 d6 d7 d8 d9)
        | (go_at_call 17; (with_reducible refine (rdecode ba bm bc lb wd (HB.out.mono Bd.out) HM.out G v HD.out).mono ?_); rintro x we ⟨ga, gn, gc, b', m', k', rfl, h1, h2, hb⟩; have De := Lib.hid h1; have Se := Lib.hid h2; have Be := Lib.hid (Bd.out.trans (hb.mono Bd.out.size)); clear h1 h2 hb)
        | ((with_reducible refine alloc_row (o := ⟨some 9, _, _, _, _, _⟩) rfl _ rfl _ RZ.out ?_); intro wf hr hb hz; have Hf := Lib.hid hr; have Df := Lib.hid (De.out.mono hb); have Sf := Lib.hid (Se.out.mono hb); have Bf := Lib.hid (Be.out.trans (hb.mono Be.out.size)); clear hr hb hz)
        | ((with_reducible refine store_row (o := ⟨none, _, _, _, _, _⟩) rfl _ (.tmp 9) _ rfl we.heap.size (G.rc ga gn gc b' m' k').cells ?_ ?_ 26 _ Hf.out ?_ ?_ ?_ ?_); (focus go_simp); (focus (first | (go_simp; done) | (go_simp; rfl))); (focus (exact RS.out)); (focus rfl); (focus (exact rc_one _)); intro wg hr hu; have Hg := Lib.hid hr; have Dg := Lib.hid (Df.out.put Hf.out (NB_rc _) hu); have Sg := Lib.hid (Sf.out.put Hf.out (NB_rc _) hu); have Bg := Lib.hid (Bf.out.trans (hu.below Be.out.size)); clear hr hu)
        | (go_at_call 9; (with_reducible refine (awake11 wg).mono ?_); rintro x wz ⟨rfl, hb⟩; have Bz := Lib.hid (Bg.out.trans (hb.mono Bg.out.size)); clear hb))
      go_ret
      exact ⟨rfl, Bz.out⟩
  · obtain ⟨pe, hpe⟩ : ∃ o, ([] : List UInt8) = o := ⟨_, rfl⟩
    have HCK := Lib.hid h1
    have HPE := Lib.hid (show encV r l p = pe by unfold encV; rw [if_neg (by rw [h1]; decide)]; exact hpe)
    have HPL := Lib.hid (show pe.length ≤ 140737488355000 by rw [← hpe]; decide)
    clear h1 hpe hd
    rcases hv with rfl | hv
    ·
      go_enter Try.func5, Try.ntmps5
      go_wp2_with (first
        | (with_reducible refine box_row (o := ⟨some 2, _, _, _, _, _⟩) rfl _ _ rfl r.cells rfl ?_; intro w1 hr1 hb1 hz1; have E1 := Lib.hid hr1; have B1 := Lib.hid hb1; clear hr1 hb1 hz1)
        | ((with_reducible refine load_row (o := ⟨some 13, _, _, _, _, _⟩) rfl _ _ rfl w.heap.size ?_ _ r.cells _ E1.out Try.underlying26 rfl ?_ ?_); (focus go_simp); (focus (exact RS.out)))
        | (go_at_call 8; (with_reducible refine (rfew r w1).mono ?_); rw [HFR.out]; rintro x w2 ⟨rfl, hb⟩; have E2 := Lib.hid (E1.out.below hb E1.out.lt); have B2 := Lib.hid (B1.out.trans (hb.mono B1.out.size)); clear hb)
        | ((with_reducible refine load_row (o := ⟨some 23, _, _, _, _, _⟩) rfl _ _ rfl w.heap.size ?_ _ r.cells _ E2.out Try.underlying26 rfl ?_ ?_); (focus go_simp); (focus (exact RS.out)))
        | (go_at_call 10; (with_reducible refine (renc r l p w2 (HRE.out.mono B2.out) (HRS.out.mono B2.out)).mono ?_); rw [HCK.out, HPE.out]; rintro x w3 ⟨xa, xm, xc, rfl, hx, hb⟩; have X3 := Lib.hid hx; have XL := Lib.hid (show xm ≤ 140737488355000 by have := HPL.out; have := hx.hlen; omega); have E3 := Lib.hid (E2.out.below hb E2.out.lt); have B3 := Lib.hid (B2.out.trans (hb.mono B2.out.size)); clear hb hx)
        | (go_at_call 17; (with_reducible refine (rdecode ba bm bc lb w3 (HB.out.mono B3.out) HM.out G 0 HD.out).mono ?_); rintro x we ⟨ga, gn, gc, b', m', k', rfl, h1, h2, hb⟩; have De := Lib.hid h1; have Se := Lib.hid h2; have Be := Lib.hid (B3.out.trans (hb.mono B3.out.size)); clear h1 h2 hb)
        | ((with_reducible refine alloc_row (o := ⟨some 9, _, _, _, _, _⟩) rfl _ rfl _ RZ.out ?_); intro wf hr hb hz; have Hf := Lib.hid hr; have Df := Lib.hid (De.out.mono hb); have Sf := Lib.hid (Se.out.mono hb); have Bf := Lib.hid (Be.out.trans (hb.mono Be.out.size)); clear hr hb hz)
        | ((with_reducible refine store_row (o := ⟨none, _, _, _, _, _⟩) rfl _ (.tmp 9) _ rfl we.heap.size (G.rc ga gn gc b' m' k').cells ?_ ?_ 26 _ Hf.out ?_ ?_ ?_ ?_); (focus go_simp); (focus (first | (go_simp; done) | (go_simp; rfl))); (focus (exact RS.out)); (focus rfl); (focus (exact rc_one _)); intro wg hr hu; have Hg := Lib.hid hr; have Dg := Lib.hid (Df.out.put Hf.out (NB_rc _) hu); have Sg := Lib.hid (Sf.out.put Hf.out (NB_rc _) hu); have Bg := Lib.hid (Bf.out.trans (hu.below Be.out.size)); have HG := Lib.hid (enc_dec HD.out Dg.out Sg.out); clear hr hu)
        | ((with_reducible refine load_row (o := ⟨some 50, _, _, _, _, _⟩) rfl _ _ rfl we.heap.size ?_ _ (G.rc ga gn gc b' m' k').cells _ Hg.out Try.underlying26 rfl ?_ ?_); (focus go_simp); (focus (exact RS.out)))
        | (go_at_call 10; (with_reducible refine (renc (G.rc ga gn gc b' m' k') G.dt G.sn wg ?_ ?_).mono ?_); (focus (exact Dg.out)); (focus (exact Sg.out)); rw [HG.out.1, HG.out.2]; rintro x wh ⟨ya, ym, yc, rfl, hy, hb⟩; obtain rfl : ym = bm := (by rw [← hy.hlen]; exact HB.out.hlen); have Yh := Lib.hid hy; have Bh := Lib.hid (Bg.out.trans (hb.mono Bg.out.size)); clear hb hy)
        | (go_at_call 12; (with_reducible refine (sequal ya ba ym ym yc bc lb lb wh Yh.out (HB.out.mono Bh.out)).mono ?_); rw [decide_eq_true rfl]; rintro x wi ⟨rfl, hq⟩; have Bi := Lib.hid (Bh.out.trans (hq.below _)); clear hq)
        | (go_at_call 9; (with_reducible refine (awake11 wi).mono ?_); rintro x wz ⟨rfl, hb⟩; have Bz := Lib.hid (Bi.out.trans (hb.mono Bi.out.size)); clear hb))
      go_ret
      exact ⟨rfl, Bz.out⟩
    · have hne : (v == 0) = false := by simpa using hv
      go_enter Try.func5, Try.ntmps5
      go_wp2_with (first
        | (with_reducible refine box_row (o := ⟨some 2, _, _, _, _, _⟩) rfl _ _ rfl r.cells rfl ?_; intro w1 hr1 hb1 hz1; have E1 := Lib.hid hr1; have B1 := Lib.hid hb1; clear hr1 hb1 hz1)
        | ((with_reducible refine load_row (o := ⟨some 13, _, _, _, _, _⟩) rfl _ _ rfl w.heap.size ?_ _ r.cells _ E1.out Try.underlying26 rfl ?_ ?_); (focus go_simp); (focus (exact RS.out)))
        | (go_at_call 8; (with_reducible refine (rfew r w1).mono ?_); rw [HFR.out]; rintro x w2 ⟨rfl, hb⟩; have E2 := Lib.hid (E1.out.below hb E1.out.lt); have B2 := Lib.hid (B1.out.trans (hb.mono B1.out.size)); clear hb)
        | ((with_reducible refine load_row (o := ⟨some 23, _, _, _, _, _⟩) rfl _ _ rfl w.heap.size ?_ _ r.cells _ E2.out Try.underlying26 rfl ?_ ?_); (focus go_simp); (focus (exact RS.out)))
        | (go_at_call 10; (with_reducible refine (renc r l p w2 (HRE.out.mono B2.out) (HRS.out.mono B2.out)).mono ?_); rw [HCK.out, HPE.out]; rintro x w3 ⟨xa, xm, xc, rfl, hx, hb⟩; have X3 := Lib.hid hx; have XL := Lib.hid (show xm ≤ 140737488355000 by have := HPL.out; have := hx.hlen; omega); have E3 := Lib.hid (E2.out.below hb E2.out.lt); have B3 := Lib.hid (B2.out.trans (hb.mono B2.out.size)); clear hb hx)
        | (go_at_call 17; (with_reducible refine (rdecode ba bm bc lb w3 (HB.out.mono B3.out) HM.out G v HD.out).mono ?_); rintro x we ⟨ga, gn, gc, b', m', k', rfl, h1, h2, hb⟩; have De := Lib.hid h1; have Se := Lib.hid h2; have Be := Lib.hid (B3.out.trans (hb.mono B3.out.size)); clear h1 h2 hb)
        | ((with_reducible refine alloc_row (o := ⟨some 9, _, _, _, _, _⟩) rfl _ rfl _ RZ.out ?_); intro wf hr hb hz; have Hf := Lib.hid hr; have Df := Lib.hid (De.out.mono hb); have Sf := Lib.hid (Se.out.mono hb); have Bf := Lib.hid (Be.out.trans (hb.mono Be.out.size)); clear hr hb hz)
        | ((with_reducible refine store_row (o := ⟨none, _, _, _, _, _⟩) rfl _ (.tmp 9) _ rfl we.heap.size (G.rc ga gn gc b' m' k').cells ?_ ?_ 26 _ Hf.out ?_ ?_ ?_ ?_); (focus go_simp); (focus (first | (go_simp; done) | (go_simp; rfl))); (focus (exact RS.out)); (focus rfl); (focus (exact rc_one _)); intro wg hr hu; have Hg := Lib.hid hr; have Dg := Lib.hid (Df.out.put Hf.out (NB_rc _) hu); have Sg := Lib.hid (Sf.out.put Hf.out (NB_rc _) hu); have Bg := Lib.hid (Bf.out.trans (hu.below Be.out.size)); clear hr hu)
        | (go_at_call 9; (with_reducible refine (awake11 wg).mono ?_); rintro x wz ⟨rfl, hb⟩; have Bz := Lib.hid (Bg.out.trans (hb.mono Bg.out.size)); clear hb))
      go_ret
      exact ⟨rfl, Bz.out⟩
end Go.Proofs.Ytggmindkpfpmhaa.W
