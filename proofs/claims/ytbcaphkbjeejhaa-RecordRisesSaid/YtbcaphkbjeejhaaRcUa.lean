/- LAYER 11 (record): Apply of the reference. -/
import Derived.Test.YtbcaphkbjeejhaaRcAq
import Derived.Test.YtbcaphkbjeejhaaRcU
set_option linter.unusedSimpArgs false
set_option linter.unusedVariables false
namespace Go.Proofs.Ytbcaphkbjeejhaa.W
open Go Go.ChangeShapes Go.WideShapes Go.ChangeAt Go.RowKit

set_option maxRecDepth 100000 in
set_option maxHeartbeats 16000000 in
theorem uapp_bad (s : Sv) (d : List UInt8) (L : List (En × List UInt8)) (k rt rv ix tm kd ri rf : Int) (xa ya : Option Addr) (xn xc yn yc : Nat) (l p : List UInt8) (w : World) (h : SvF w s d L) (hr : RcF w ⟨k, rt, rv, ⟨ix, tm, kd, xa, xn, xc⟩, ri, rf, ya, yn, yc⟩ l p) (hsl : s.en ≤ 1000000) (hck : chkU ⟨k, rt, rv, ⟨ix, tm, kd, xa, xn, xc⟩, ri, rf, ya, yn, yc⟩ l p = 1) :
    Calls Try.prog 13 #[.agg s.cells.toArray, .agg (Rc.cells ⟨k, rt, rv, ⟨ix, tm, kd, xa, xn, xc⟩, ri, rf, ya, yn, yc⟩).toArray] w fun x w' => x = .returned (.tuple #[.agg (Sv.cells s).toArray, .int .i64 1]) ∧ Below w.heap.size w w' := by
  obtain ⟨t, vt, b, bt, f, a, n, c, ea, en, ec⟩ := s
  have H := Lib.hid h
  have HD := Lib.hid h.rd
  have HLN := Lib.hid h.es.hlen
  have HC := Lib.hid h.es.hcells
  have HF := Lib.hid h.es.hfit
  have HR := Lib.hid hr
  have HRE := Lib.hid hr.e.rd
  have HRS := Lib.hid hr.rd
  have HNX := Lib.hid hr.e.rd.hlen
  have HNY := Lib.hid hr.rd.hlen
  have HCK := Lib.hid hck
  have SZ := Lib.hid sv_zero
  have SS := Lib.hid sv_size
  have RS := Lib.hid rc_size
  have EZ := Lib.hid en_zero
  have ES := Lib.hid en_size
  unfold Sv.cells Rc.cells
  dsimp only at hsl HLN HC HD HRE HRS HNX HNY ⊢
  clear h hr hck
  have CK := Lib.hid (fun (W : World) (hb : Below w.heap.size w W) => ucheckR ⟨k, rt, rv, ⟨ix, tm, kd, xa, xn, xc⟩, ri, rf, ya, yn, yc⟩ l p W (HRE.out.mono hb) (HRS.out.mono hb))
  rw [HCK.out] at CK
  unfold Rc.cells at CK
  dsimp only at CK
  go_enter Try.func13, Try.ntmps13
  go_wp2_with (first
    | (with_reducible refine box_row (o := ⟨some 2, _, _, _, _, _⟩) rfl _ _ rfl [.int .i64 t, .int .i64 vt, .int .i64 b, .int .i64 bt, .int .i64 f, .slice a n c, .slice ea en ec] rfl ?_; intro w1 hr1 hb1 hz1; have S1 := Lib.hid hr1; have B1 := Lib.hid hb1; clear hr1 hb1 hz1)
    | (with_reducible refine box_row (o := ⟨some 3, _, _, _, _, _⟩) rfl _ _ rfl [.int .i64 k, .int .i64 rt, .int .i64 rv, .int .i64 ix, .int .i64 tm, .int .i64 kd, .slice xa xn xc, .int .i64 ri, .int .i64 rf, .slice ya yn yc] rfl ?_; intro w2 hr2 hb2 hz2; have R2 := Lib.hid hr2; have S2 := Lib.hid (S1.out.below hb2 S1.out.lt); have L1 := Lib.hid (show w.heap.size < w1.heap.size from S1.out.lt); have B2 := Lib.hid (B1.out.trans (hb2.mono B1.out.size)); clear hr2 hb2 hz2)
    | ((with_reducible refine alloc_row (o := ⟨some 4, _, _, _, _, _⟩) rfl _ rfl _ SZ.out ?_); intro w3 hr3 hb3 hz3; have Z3 := Lib.hid hr3; have L2 := Lib.hid (show w1.heap.size < w2.heap.size from R2.out.lt); have S3 := Lib.hid (S2.out.below hb3 S2.out.lt); have R3 := Lib.hid (R2.out.below hb3 R2.out.lt); have B3 := Lib.hid (B2.out.trans (hb3.mono B2.out.size)); have L3 := Lib.hid (show w2.heap.size < w3.heap.size from hr3.lt); clear hr3 hb3 hz3)
    | ((with_reducible refine load_row (o := ⟨some 10, _, _, _, _, _⟩) rfl _ _ rfl w1.heap.size ?_ _ [.int .i64 k, .int .i64 rt, .int .i64 rv, .int .i64 ix, .int .i64 tm, .int .i64 kd, .slice xa xn xc, .int .i64 ri, .int .i64 rf, .slice ya yn yc] _ R3.out Try.underlying29 rfl ?_ ?_); (focus go_simp); (focus (exact RS.out)))
    | (go_at_call 58; (with_reducible refine (CK.out w3 B3.out).mono ?_); rintro x w4 ⟨rfl, hb⟩; have S4 := Lib.hid (S3.out.below hb S3.out.lt); have R4 := Lib.hid (R3.out.below hb R3.out.lt); have Z4 := Lib.hid (Z3.out.below hb Z3.out.lt); have B4 := Lib.hid (B3.out.trans (hb.mono B3.out.size)); have L4 := Lib.hid (show w2.heap.size < w4.heap.size from Z4.out.lt); clear hb)
    | ((with_reducible refine load_row (o := ⟨some 13, _, _, _, _, _⟩) rfl _ _ rfl w.heap.size ?_ _ [.int .i64 t, .int .i64 vt, .int .i64 b, .int .i64 bt, .int .i64 f, .slice a n c, .slice ea en ec] _ S4.out Try.underlying25 rfl ?_ ?_); (focus go_simp); (focus (exact SS.out)))
    | ((with_reducible refine store_row (o := ⟨none, _, _, _, _, _⟩) rfl _ (.tmp 4) _ rfl w2.heap.size [.int .i64 t, .int .i64 vt, .int .i64 b, .int .i64 bt, .int .i64 f, .slice a n c, .slice ea en ec] ?_ ?_ 25 _ Z4.out ?_ ?_ ?_ ?_); (focus go_simp); (focus (first | (go_simp; done) | (go_simp; rfl))); (focus (exact SS.out)); (focus rfl); (focus (exact sv_one ⟨t, vt, b, bt, f, a, n, c, ea, en, ec⟩)); intro wz hr hu; have Ez := Lib.hid hr; have Bz := Lib.hid (B4.out.trans (hu.below B2.out.size)); clear hr hu))
  exact bodyPost_ret (results_row_tmp rfl _ _ w2.heap.size 25 _ _ _ (by go_simp) Ez.out Try.underlying25 rfl SS.out) rfl ⟨rfl, Bz.out⟩
set_option maxRecDepth 100000 in
set_option maxHeartbeats 16000000 in
theorem uapp_log1 (s : Sv) (d : List UInt8) (L : List (En × List UInt8)) (rt rv ix tm kd ri rf : Int) (xa ya : Option Addr) (xn xc yn yc : Nat) (l p : List UInt8) (w : World) (h : SvF w s d L) (hr : RcF w ⟨1, rt, rv, ⟨ix, tm, kd, xa, xn, xc⟩, ri, rf, ya, yn, yc⟩ l p) (hsl : s.en ≤ 1000000) (hck : chkU ⟨1, rt, rv, ⟨ix, tm, kd, xa, xn, xc⟩, ri, rf, ya, yn, yc⟩ l p = 0) (hq : ri < s.b) :
    Calls Try.prog 13 #[.agg s.cells.toArray, .agg (Rc.cells ⟨1, rt, rv, ⟨ix, tm, kd, xa, xn, xc⟩, ri, rf, ya, yn, yc⟩).toArray] w fun x w' => x = .returned (.tuple #[.agg (Sv.cells s).toArray, .int .i64 10]) ∧ Below w.heap.size w w' := by
  obtain ⟨t, vt, b, bt, f, a, n, c, ea, en, ec⟩ := s
  have H := Lib.hid h
  have HD := Lib.hid h.rd
  have HLN := Lib.hid h.es.hlen
  have HC := Lib.hid h.es.hcells
  have HF := Lib.hid h.es.hfit
  have HR := Lib.hid hr
  have HRE := Lib.hid hr.e.rd
  have HRS := Lib.hid hr.rd
  have HNX := Lib.hid hr.e.rd.hlen
  have HNY := Lib.hid hr.rd.hlen
  have HCK := Lib.hid hck
  have SZ := Lib.hid sv_zero
  have SS := Lib.hid sv_size
  have RS := Lib.hid rc_size
  have EZ := Lib.hid en_zero
  have ES := Lib.hid en_size
  unfold Sv.cells Rc.cells
  dsimp only at hsl HLN HC HD HRE HRS HNX HNY ⊢
  clear h hr hck
  have hq1 : ri < b := hq
  have hq2 : ¬ b ≤ ri := by omega
  clear hq
  have CK := Lib.hid (fun (W : World) (hb : Below w.heap.size w W) => ucheckR ⟨1, rt, rv, ⟨ix, tm, kd, xa, xn, xc⟩, ri, rf, ya, yn, yc⟩ l p W (HRE.out.mono hb) (HRS.out.mono hb))
  rw [HCK.out] at CK
  unfold Rc.cells at CK
  dsimp only at CK
  go_enter Try.func13, Try.ntmps13
  go_wp2_with (first
    | (with_reducible refine box_row (o := ⟨some 2, _, _, _, _, _⟩) rfl _ _ rfl [.int .i64 t, .int .i64 vt, .int .i64 b, .int .i64 bt, .int .i64 f, .slice a n c, .slice ea en ec] rfl ?_; intro w1 hr1 hb1 hz1; have S1 := Lib.hid hr1; have B1 := Lib.hid hb1; clear hr1 hb1 hz1)
    | (with_reducible refine box_row (o := ⟨some 3, _, _, _, _, _⟩) rfl _ _ rfl [.int .i64 1, .int .i64 rt, .int .i64 rv, .int .i64 ix, .int .i64 tm, .int .i64 kd, .slice xa xn xc, .int .i64 ri, .int .i64 rf, .slice ya yn yc] rfl ?_; intro w2 hr2 hb2 hz2; have R2 := Lib.hid hr2; have S2 := Lib.hid (S1.out.below hb2 S1.out.lt); have L1 := Lib.hid (show w.heap.size < w1.heap.size from S1.out.lt); have B2 := Lib.hid (B1.out.trans (hb2.mono B1.out.size)); clear hr2 hb2 hz2)
    | ((with_reducible refine alloc_row (o := ⟨some 4, _, _, _, _, _⟩) rfl _ rfl _ SZ.out ?_); intro w3 hr3 hb3 hz3; have Z3 := Lib.hid hr3; have L2 := Lib.hid (show w1.heap.size < w2.heap.size from R2.out.lt); have S3 := Lib.hid (S2.out.below hb3 S2.out.lt); have R3 := Lib.hid (R2.out.below hb3 R2.out.lt); have B3 := Lib.hid (B2.out.trans (hb3.mono B2.out.size)); have L3 := Lib.hid (show w2.heap.size < w3.heap.size from hr3.lt); clear hr3 hb3 hz3)
    | ((with_reducible refine load_row (o := ⟨some 10, _, _, _, _, _⟩) rfl _ _ rfl w1.heap.size ?_ _ [.int .i64 1, .int .i64 rt, .int .i64 rv, .int .i64 ix, .int .i64 tm, .int .i64 kd, .slice xa xn xc, .int .i64 ri, .int .i64 rf, .slice ya yn yc] _ R3.out Try.underlying29 rfl ?_ ?_); (focus go_simp); (focus (exact RS.out)))
    | (go_at_call 58; (with_reducible refine (CK.out w3 B3.out).mono ?_); rintro x w4 ⟨rfl, hb⟩; have S4 := Lib.hid (S3.out.below hb S3.out.lt); have R4 := Lib.hid (R3.out.below hb R3.out.lt); have Z4 := Lib.hid (Z3.out.below hb Z3.out.lt); have B4 := Lib.hid (B3.out.trans (hb.mono B3.out.size)); have L4 := Lib.hid (show w2.heap.size < w4.heap.size from Z4.out.lt); clear hb)
    | fail)
  refine region_h (fun v => Below w4.heap.size w4 v) (by kernel_rfl) (by kernel_rfl) (Below.refl _ _).drew ?_
  obtain ⟨wd, hwd⟩ : ∃ wd, w4.drew = wd := ⟨_, rfl⟩
  have D0 : Hid (Below w4.heap.size w4 wd) := Lib.hid (by rw [← hwd]; exact (Below.refl _ _).drew)
  rw [hwd]
  clear hwd
  (refine h_read 0 rfl (by kernel_rfl) (by kernel_rfl) (h_free rfl) ?_ ?_ ?_; rotate_left; (focus (intro v hv; go_simp; rfl)); go_simp)
  (refine h_read 1 rfl (by kernel_rfl) (by kernel_rfl) (h_free rfl) ?_ ?_ ?_; rotate_left; (focus (intro v hv; obtain ⟨c0, c1, c2, c3, c4, c5, c6⟩ := (S4.out.below hv S4.out.lt).q7; obtain ⟨d0, d1, d2, d3, d4, d5, d6, d7, d8, d9⟩ := (R4.out.below hv R4.out.lt).q10; go_simp; rfl)); go_simp)
  (refine h_read 2 rfl (by kernel_rfl) (by kernel_rfl) (h_free rfl) ?_ ?_ ?_; rotate_left; (focus (intro v hv; go_simp; rfl)); go_simp)
  (refine h_read 3 rfl (by kernel_rfl) (by kernel_rfl) (h_free rfl) ?_ ?_ ?_; rotate_left; (focus (intro v hv; go_simp; rfl)); go_simp)
  (refine h_skip 4 rfl (by kernel_rfl) (by kernel_rfl) ?_ ?_; (focus (go_simp; first | done | (intro h; cases h) | simp)); go_simp)
  (refine h_skip 5 rfl (by kernel_rfl) (by kernel_rfl) ?_ ?_; (focus (go_simp; first | done | (intro h; cases h) | simp)); go_simp)
  (refine h_skip 6 rfl (by kernel_rfl) (by kernel_rfl) ?_ ?_; (focus (go_simp; first | done | (intro h; cases h) | simp)); go_simp)
  (refine h_skip 7 rfl (by kernel_rfl) (by kernel_rfl) ?_ ?_; (focus (go_simp; first | done | (intro h; cases h) | simp)); go_simp)
  (refine h_skip 8 rfl (by kernel_rfl) (by kernel_rfl) ?_ ?_; (focus (go_simp; first | done | (intro h; cases h) | simp)); go_simp)
  (refine h_skip 9 rfl (by kernel_rfl) (by kernel_rfl) ?_ ?_; (focus (go_simp; first | done | (intro h; cases h) | simp)); go_simp)
  (refine h_skip 10 rfl (by kernel_rfl) (by kernel_rfl) ?_ ?_; (focus (go_simp; first | done | (intro h; cases h) | simp)); go_simp)
  (refine h_read 11 rfl (by kernel_rfl) (by kernel_rfl) (h_free rfl) ?_ ?_ ?_; rotate_left; (focus (intro v hv; go_simp; rfl)); go_simp)
  (refine h_read 12 rfl (by kernel_rfl) (by kernel_rfl) (h_free rfl) ?_ ?_ ?_; rotate_left; (focus (intro v hv; go_simp; rfl)); go_simp)
  (refine h_read 13 rfl (by kernel_rfl) (by kernel_rfl) ?_ ?_ ?_ ?_; (focus (go_simp; done)); rotate_left; (focus (intro v hv; go_simp; rfl)); go_simp)
  (refine h_read 14 rfl (by kernel_rfl) (by kernel_rfl) ?_ ?_ ?_ ?_; (focus (go_simp; done)); rotate_left; (focus (intro v hv; obtain ⟨c0, c1, c2, c3, c4, c5, c6⟩ := (S4.out.below hv S4.out.lt).q7; obtain ⟨d0, d1, d2, d3, d4, d5, d6, d7, d8, d9⟩ := (R4.out.below hv R4.out.lt).q10; go_simp; rfl)); go_simp)
  (refine h_read 15 rfl (by kernel_rfl) (by kernel_rfl) ?_ ?_ ?_ ?_; (focus (go_simp; done)); rotate_left; (focus (intro v hv; go_simp; rfl)); go_simp)
  (refine h_read 16 rfl (by kernel_rfl) (by kernel_rfl) ?_ ?_ ?_ ?_; (focus (go_simp; done)); rotate_left; (focus (intro v hv; go_simp; rfl)); go_simp)
  (refine h_skip 17 rfl (by kernel_rfl) (by kernel_rfl) ?_ ?_; (focus (go_simp; first | done | (intro h; cases h) | simp)); go_simp)
  (refine h_skip 18 rfl (by kernel_rfl) (by kernel_rfl) ?_ ?_; (focus (go_simp; first | done | (intro h; cases h) | simp)); go_simp)
  (refine h_skip 19 rfl (by kernel_rfl) (by kernel_rfl) ?_ ?_; (focus (go_simp; first | done | (intro h; cases h) | simp)); go_simp)
  (refine h_skip 20 rfl (by kernel_rfl) (by kernel_rfl) ?_ ?_; (focus (go_simp; first | done | (intro h; cases h) | simp)); go_simp)
  (refine h_skip 21 rfl (by kernel_rfl) (by kernel_rfl) ?_ ?_; (focus (go_simp; first | done | (intro h; cases h) | simp)); go_simp)
  (refine h_read 22 rfl (by kernel_rfl) (by kernel_rfl) ?_ ?_ ?_ ?_; (focus (go_simp; done)); rotate_left; (focus (intro v hv; go_simp; rfl)); go_simp)
  (refine h_read 23 rfl (by kernel_rfl) (by kernel_rfl) (h_free rfl) ?_ ?_ ?_; rotate_left; (focus (intro v hv; go_simp; rfl)); go_simp)
  (refine h_read 24 rfl (by kernel_rfl) (by kernel_rfl) (h_free rfl) ?_ ?_ ?_; rotate_left; (focus (intro v hv; go_simp; rfl)); go_simp)
  (refine h_read 25 rfl (by kernel_rfl) (by kernel_rfl) ?_ ?_ ?_ ?_; (focus (go_simp; done)); rotate_left; (focus (intro v hv; go_simp; rfl)); go_simp)
  (refine h_read 26 rfl (by kernel_rfl) (by kernel_rfl) ?_ ?_ ?_ ?_; (focus (go_simp; done)); rotate_left; (focus (intro v hv; obtain ⟨c0, c1, c2, c3, c4, c5, c6⟩ := (S4.out.below hv S4.out.lt).q7; obtain ⟨d0, d1, d2, d3, d4, d5, d6, d7, d8, d9⟩ := (R4.out.below hv R4.out.lt).q10; go_simp; rfl)); go_simp)
  (refine h_read 27 rfl (by kernel_rfl) (by kernel_rfl) ?_ ?_ ?_ ?_; (focus (go_simp; done)); rotate_left; (focus (intro v hv; go_simp; rfl)); go_simp)
  (refine h_read 28 rfl (by kernel_rfl) (by kernel_rfl) ?_ ?_ ?_ ?_; (focus (go_simp; done)); rotate_left; (focus (intro v hv; go_simp; rfl)); go_simp)
  (refine h_read 29 rfl (by kernel_rfl) (by kernel_rfl) ?_ ?_ ?_ ?_; (focus (go_simp; done)); rotate_left; (focus (intro v hv; go_simp; rfl)); go_simp)
  (refine h_read 30 rfl (by kernel_rfl) (by kernel_rfl) ?_ ?_ ?_ ?_; (focus (go_simp; done)); rotate_left; (focus (intro v hv; obtain ⟨c0, c1, c2, c3, c4, c5, c6⟩ := (S4.out.below hv S4.out.lt).q7; obtain ⟨d0, d1, d2, d3, d4, d5, d6, d7, d8, d9⟩ := (R4.out.below hv R4.out.lt).q10; go_simp; rfl)); go_simp)
  (refine h_read 31 rfl (by kernel_rfl) (by kernel_rfl) ?_ ?_ ?_ ?_; (focus (go_simp; done)); rotate_left; (focus (intro v hv; go_simp; rfl)); go_simp)
  (refine h_read 32 rfl (by kernel_rfl) (by kernel_rfl) ?_ ?_ ?_ ?_; (focus (go_simp; done)); rotate_left; (focus (intro v hv; obtain ⟨c0, c1, c2, c3, c4, c5, c6⟩ := (S4.out.below hv S4.out.lt).q7; obtain ⟨d0, d1, d2, d3, d4, d5, d6, d7, d8, d9⟩ := (R4.out.below hv R4.out.lt).q10; go_simp; rfl)); go_simp)
  (refine h_read 33 rfl (by kernel_rfl) (by kernel_rfl) ?_ ?_ ?_ ?_; (focus (go_simp; done)); rotate_left; (focus (intro v hv; go_simp; rfl)); go_simp)
  (refine h_read 34 rfl (by kernel_rfl) (by kernel_rfl) ?_ ?_ ?_ ?_; (focus (go_simp; done)); rotate_left; (focus (intro v hv; go_simp; rfl)); go_simp)
  (refine h_read 35 rfl (by kernel_rfl) (by kernel_rfl) (h_free rfl) ?_ ?_ ?_; rotate_left; (focus (intro v hv; go_simp; rfl)); go_simp)
  refine h_done (by kernel_rfl) ?_
  have D5 := D0
  obtain ⟨w5, hw5⟩ : ∃ x, wd = x := ⟨_, rfl⟩
  rw [hw5] at D5 ⊢
  clear D0 hw5
  have S5 := Lib.hid (S4.out.below D5.out S4.out.lt)
  have R5 := Lib.hid (R4.out.below D5.out R4.out.lt)
  have Z5 := Lib.hid (Z4.out.below D5.out Z4.out.lt)
  have B5 := Lib.hid (B4.out.trans (D5.out.mono B4.out.size))
  have L5 := Lib.hid (show w2.heap.size < w5.heap.size from Z5.out.lt)
  go_wp2_with (first
    | ((with_reducible refine load_row (o := ⟨some 50, _, _, _, _, _⟩) rfl _ _ rfl w.heap.size ?_ _ [.int .i64 t, .int .i64 vt, .int .i64 b, .int .i64 bt, .int .i64 f, .slice a n c, .slice ea en ec] _ S5.out Try.underlying25 rfl ?_ ?_); (focus go_simp); (focus (exact SS.out)))
    | ((with_reducible refine store_row (o := ⟨none, _, _, _, _, _⟩) rfl _ (.tmp 4) _ rfl w2.heap.size [.int .i64 t, .int .i64 vt, .int .i64 b, .int .i64 bt, .int .i64 f, .slice a n c, .slice ea en ec] ?_ ?_ 25 _ Z5.out ?_ ?_ ?_ ?_); (focus go_simp); (focus (first | (go_simp; done) | (go_simp; rfl))); (focus (exact SS.out)); (focus rfl); (focus (exact sv_one ⟨t, vt, b, bt, f, a, n, c, ea, en, ec⟩)); intro wz hr hu; have Ez := Lib.hid hr; have Bz := Lib.hid (B5.out.trans (hu.below B2.out.size)); clear hr hu))
  exact bodyPost_ret (results_row_tmp rfl _ _ w2.heap.size 25 _ _ _ (by go_simp) Ez.out Try.underlying25 rfl SS.out) rfl ⟨rfl, Bz.out⟩
set_option maxRecDepth 100000 in
set_option maxHeartbeats 16000000 in
theorem uapp_log3 (s : Sv) (d : List UInt8) (L : List (En × List UInt8)) (rt rv ix tm kd ri rf : Int) (xa ya : Option Addr) (xn xc yn yc : Nat) (l p : List UInt8) (w : World) (h : SvF w s d L) (hr : RcF w ⟨3, rt, rv, ⟨ix, tm, kd, xa, xn, xc⟩, ri, rf, ya, yn, yc⟩ l p) (hsl : s.en ≤ 1000000) (hck : chkU ⟨3, rt, rv, ⟨ix, tm, kd, xa, xn, xc⟩, ri, rf, ya, yn, yc⟩ l p = 0) (h3 : 1 ≤ ix ∧ ix ≤ 2147483648) (hq : ix - 1 ≠ lastV s.b L) :
    Calls Try.prog 13 #[.agg s.cells.toArray, .agg (Rc.cells ⟨3, rt, rv, ⟨ix, tm, kd, xa, xn, xc⟩, ri, rf, ya, yn, yc⟩).toArray] w fun x w' => x = .returned (.tuple #[.agg (Sv.cells s).toArray, .int .i64 10]) ∧ Below w.heap.size w w' := by
  obtain ⟨t, vt, b, bt, f, a, n, c, ea, en, ec⟩ := s
  have H := Lib.hid h
  have HD := Lib.hid h.rd
  have HLN := Lib.hid h.es.hlen
  have HC := Lib.hid h.es.hcells
  have HF := Lib.hid h.es.hfit
  have HR := Lib.hid hr
  have HRE := Lib.hid hr.e.rd
  have HRS := Lib.hid hr.rd
  have HNX := Lib.hid hr.e.rd.hlen
  have HNY := Lib.hid hr.rd.hlen
  have HCK := Lib.hid hck
  have SZ := Lib.hid sv_zero
  have SS := Lib.hid sv_size
  have RS := Lib.hid rc_size
  have EZ := Lib.hid en_zero
  have ES := Lib.hid en_size
  unfold Sv.cells Rc.cells
  dsimp only at hsl HLN HC HD HRE HRS HNX HNY ⊢
  clear h hr hck
  have gw : IntKind.i64.wrap (ix - 1) = ix - 1 := by rw [IntKind.wrap_i64]; omega
  obtain ⟨z, hz⟩ : ∃ z, lastV b L = z := ⟨_, rfl⟩
  have HZ := Lib.hid hz
  dsimp only at hq
  rw [hz] at hq
  have hq1 : (ix - 1 == z) = false := by simpa using hq
  clear hz h3
  have CK := Lib.hid (fun (W : World) (hb : Below w.heap.size w W) => ucheckR ⟨3, rt, rv, ⟨ix, tm, kd, xa, xn, xc⟩, ri, rf, ya, yn, yc⟩ l p W (HRE.out.mono hb) (HRS.out.mono hb))
  rw [HCK.out] at CK
  unfold Rc.cells at CK
  dsimp only at CK
  go_enter Try.func13, Try.ntmps13
  go_wp2_with (first
    | (with_reducible refine box_row (o := ⟨some 2, _, _, _, _, _⟩) rfl _ _ rfl [.int .i64 t, .int .i64 vt, .int .i64 b, .int .i64 bt, .int .i64 f, .slice a n c, .slice ea en ec] rfl ?_; intro w1 hr1 hb1 hz1; have S1 := Lib.hid hr1; have B1 := Lib.hid hb1; clear hr1 hb1 hz1)
    | (with_reducible refine box_row (o := ⟨some 3, _, _, _, _, _⟩) rfl _ _ rfl [.int .i64 3, .int .i64 rt, .int .i64 rv, .int .i64 ix, .int .i64 tm, .int .i64 kd, .slice xa xn xc, .int .i64 ri, .int .i64 rf, .slice ya yn yc] rfl ?_; intro w2 hr2 hb2 hz2; have R2 := Lib.hid hr2; have S2 := Lib.hid (S1.out.below hb2 S1.out.lt); have L1 := Lib.hid (show w.heap.size < w1.heap.size from S1.out.lt); have B2 := Lib.hid (B1.out.trans (hb2.mono B1.out.size)); clear hr2 hb2 hz2)
    | ((with_reducible refine alloc_row (o := ⟨some 4, _, _, _, _, _⟩) rfl _ rfl _ SZ.out ?_); intro w3 hr3 hb3 hz3; have Z3 := Lib.hid hr3; have L2 := Lib.hid (show w1.heap.size < w2.heap.size from R2.out.lt); have S3 := Lib.hid (S2.out.below hb3 S2.out.lt); have R3 := Lib.hid (R2.out.below hb3 R2.out.lt); have B3 := Lib.hid (B2.out.trans (hb3.mono B2.out.size)); have L3 := Lib.hid (show w2.heap.size < w3.heap.size from hr3.lt); clear hr3 hb3 hz3)
    | ((with_reducible refine load_row (o := ⟨some 10, _, _, _, _, _⟩) rfl _ _ rfl w1.heap.size ?_ _ [.int .i64 3, .int .i64 rt, .int .i64 rv, .int .i64 ix, .int .i64 tm, .int .i64 kd, .slice xa xn xc, .int .i64 ri, .int .i64 rf, .slice ya yn yc] _ R3.out Try.underlying29 rfl ?_ ?_); (focus go_simp); (focus (exact RS.out)))
    | (go_at_call 58; (with_reducible refine (CK.out w3 B3.out).mono ?_); rintro x w4 ⟨rfl, hb⟩; have S4 := Lib.hid (S3.out.below hb S3.out.lt); have R4 := Lib.hid (R3.out.below hb R3.out.lt); have Z4 := Lib.hid (Z3.out.below hb Z3.out.lt); have B4 := Lib.hid (B3.out.trans (hb.mono B3.out.size)); have L4 := Lib.hid (show w2.heap.size < w4.heap.size from Z4.out.lt); clear hb)
    | fail)
  refine region_h (fun v => Below w4.heap.size w4 v) (by kernel_rfl) (by kernel_rfl) (Below.refl _ _).drew ?_
  obtain ⟨wd, hwd⟩ : ∃ wd, w4.drew = wd := ⟨_, rfl⟩
  have D0 : Hid (Below w4.heap.size w4 wd) := Lib.hid (by rw [← hwd]; exact (Below.refl _ _).drew)
  rw [hwd]
  clear hwd
  (refine h_read 0 rfl (by kernel_rfl) (by kernel_rfl) (h_free rfl) ?_ ?_ ?_; rotate_left; (focus (intro v hv; go_simp; rfl)); go_simp)
  (refine h_read 1 rfl (by kernel_rfl) (by kernel_rfl) (h_free rfl) ?_ ?_ ?_; rotate_left; (focus (intro v hv; obtain ⟨c0, c1, c2, c3, c4, c5, c6⟩ := (S4.out.below hv S4.out.lt).q7; obtain ⟨d0, d1, d2, d3, d4, d5, d6, d7, d8, d9⟩ := (R4.out.below hv R4.out.lt).q10; go_simp; rfl)); go_simp)
  (refine h_read 2 rfl (by kernel_rfl) (by kernel_rfl) (h_free rfl) ?_ ?_ ?_; rotate_left; (focus (intro v hv; go_simp; rfl)); go_simp)
  (refine h_read 3 rfl (by kernel_rfl) (by kernel_rfl) (h_free rfl) ?_ ?_ ?_; rotate_left; (focus (intro v hv; go_simp; rfl)); go_simp)
  (refine h_read 4 rfl (by kernel_rfl) (by kernel_rfl) ?_ ?_ ?_ ?_; (focus (go_simp; done)); rotate_left; (focus (intro v hv; go_simp; rfl)); go_simp)
  (refine h_read 5 rfl (by kernel_rfl) (by kernel_rfl) ?_ ?_ ?_ ?_; (focus (go_simp; done)); rotate_left; (focus (intro v hv; go_simp; rfl)); go_simp)
  (refine h_read 6 rfl (by kernel_rfl) (by kernel_rfl) ?_ ?_ ?_ ?_; (focus (go_simp; done)); rotate_left; (focus (intro v hv; obtain ⟨c0, c1, c2, c3, c4, c5, c6⟩ := (S4.out.below hv S4.out.lt).q7; obtain ⟨d0, d1, d2, d3, d4, d5, d6, d7, d8, d9⟩ := (R4.out.below hv R4.out.lt).q10; go_simp; rfl)); go_simp)
  (refine h_read 7 rfl (by kernel_rfl) (by kernel_rfl) ?_ ?_ ?_ ?_; (focus (go_simp; done)); rotate_left; (focus (intro v hv; go_simp; rfl)); go_simp)
  (refine h_read 8 rfl (by kernel_rfl) (by kernel_rfl) ?_ ?_ ?_ ?_; (focus (go_simp; done)); rotate_left; (focus (intro v hv; refine load_all 25 (.tmp 2) ?_ w.heap.size ?_ _ [.int .i64 t, .int .i64 vt, .int .i64 b, .int .i64 bt, .int .i64 f, .slice a n c, .slice ea en ec] _ (S4.out.below hv S4.out.lt) Try.underlying25 rfl SS.out; (focus rfl); go_simp)); go_simp)
  (refine h_call 9 rfl (by kernel_rfl) ?_ 59 ?_ ?_ ?_; (focus (go_simp; done)); rotate_left; (focus (go_simp; rfl)))
  refine (ulast ⟨t, vt, b, bt, f, a, n, c, ea, en, ec⟩ d L wd (H.out.mono (B4.out.trans (D0.out.mono B4.out.size)))).mono ?_
  rw [show lastV (Sv.b ⟨t, vt, b, bt, f, a, n, c, ea, en, ec⟩) L = z from HZ.out]
  rintro x v1 ⟨rfl, hb⟩
  have J1 := Lib.hid (D0.out.trans (hb.mono D0.out.size))
  clear hb
  refine ⟨_, rfl, J1.out, ?_⟩
  go_simp
  (refine h_read 10 rfl (by kernel_rfl) (by kernel_rfl) ?_ ?_ ?_ ?_; (focus (go_simp; done)); rotate_left; (focus (intro v hv; go_simp; rfl)); go_simp)
  (refine h_read 11 rfl (by kernel_rfl) (by kernel_rfl) (h_free rfl) ?_ ?_ ?_; rotate_left; (focus (intro v hv; go_simp; rfl)); go_simp)
  (refine h_read 12 rfl (by kernel_rfl) (by kernel_rfl) (h_free rfl) ?_ ?_ ?_; rotate_left; (focus (intro v hv; go_simp; rfl)); go_simp)
  (refine h_skip 13 rfl (by kernel_rfl) (by kernel_rfl) ?_ ?_; (focus (go_simp; first | done | (intro h; cases h) | simp)); go_simp)
  (refine h_skip 14 rfl (by kernel_rfl) (by kernel_rfl) ?_ ?_; (focus (go_simp; first | done | (intro h; cases h) | simp)); go_simp)
  (refine h_skip 15 rfl (by kernel_rfl) (by kernel_rfl) ?_ ?_; (focus (go_simp; first | done | (intro h; cases h) | simp)); go_simp)
  (refine h_skip 16 rfl (by kernel_rfl) (by kernel_rfl) ?_ ?_; (focus (go_simp; first | done | (intro h; cases h) | simp)); go_simp)
  (refine h_skip 17 rfl (by kernel_rfl) (by kernel_rfl) ?_ ?_; (focus (go_simp; first | done | (intro h; cases h) | simp)); go_simp)
  (refine h_skip 18 rfl (by kernel_rfl) (by kernel_rfl) ?_ ?_; (focus (go_simp; first | done | (intro h; cases h) | simp)); go_simp)
  (refine h_skip 19 rfl (by kernel_rfl) (by kernel_rfl) ?_ ?_; (focus (go_simp; first | done | (intro h; cases h) | simp)); go_simp)
  (refine h_skip 20 rfl (by kernel_rfl) (by kernel_rfl) ?_ ?_; (focus (go_simp; first | done | (intro h; cases h) | simp)); go_simp)
  (refine h_skip 21 rfl (by kernel_rfl) (by kernel_rfl) ?_ ?_; (focus (go_simp; first | done | (intro h; cases h) | simp)); go_simp)
  (refine h_skip 22 rfl (by kernel_rfl) (by kernel_rfl) ?_ ?_; (focus (go_simp; first | done | (intro h; cases h) | simp)); go_simp)
  (refine h_read 23 rfl (by kernel_rfl) (by kernel_rfl) (h_free rfl) ?_ ?_ ?_; rotate_left; (focus (intro v hv; go_simp; rfl)); go_simp)
  (refine h_read 24 rfl (by kernel_rfl) (by kernel_rfl) (h_free rfl) ?_ ?_ ?_; rotate_left; (focus (intro v hv; go_simp; rfl)); go_simp)
  (refine h_skip 25 rfl (by kernel_rfl) (by kernel_rfl) ?_ ?_; (focus (go_simp; first | done | (intro h; cases h) | simp)); go_simp)
  (refine h_skip 26 rfl (by kernel_rfl) (by kernel_rfl) ?_ ?_; (focus (go_simp; first | done | (intro h; cases h) | simp)); go_simp)
  (refine h_skip 27 rfl (by kernel_rfl) (by kernel_rfl) ?_ ?_; (focus (go_simp; first | done | (intro h; cases h) | simp)); go_simp)
  (refine h_skip 28 rfl (by kernel_rfl) (by kernel_rfl) ?_ ?_; (focus (go_simp; first | done | (intro h; cases h) | simp)); go_simp)
  (refine h_skip 29 rfl (by kernel_rfl) (by kernel_rfl) ?_ ?_; (focus (go_simp; first | done | (intro h; cases h) | simp)); go_simp)
  (refine h_skip 30 rfl (by kernel_rfl) (by kernel_rfl) ?_ ?_; (focus (go_simp; first | done | (intro h; cases h) | simp)); go_simp)
  (refine h_skip 31 rfl (by kernel_rfl) (by kernel_rfl) ?_ ?_; (focus (go_simp; first | done | (intro h; cases h) | simp)); go_simp)
  (refine h_skip 32 rfl (by kernel_rfl) (by kernel_rfl) ?_ ?_; (focus (go_simp; first | done | (intro h; cases h) | simp)); go_simp)
  (refine h_skip 33 rfl (by kernel_rfl) (by kernel_rfl) ?_ ?_; (focus (go_simp; first | done | (intro h; cases h) | simp)); go_simp)
  (refine h_skip 34 rfl (by kernel_rfl) (by kernel_rfl) ?_ ?_; (focus (go_simp; first | done | (intro h; cases h) | simp)); go_simp)
  (refine h_read 35 rfl (by kernel_rfl) (by kernel_rfl) (h_free rfl) ?_ ?_ ?_; rotate_left; (focus (intro v hv; go_simp; rfl)); go_simp)
  refine h_done (by kernel_rfl) ?_
  have D5 := J1
  obtain ⟨w5, hw5⟩ : ∃ x, v1 = x := ⟨_, rfl⟩
  rw [hw5] at D5 ⊢
  clear J1 D0 hw5
  have S5 := Lib.hid (S4.out.below D5.out S4.out.lt)
  have R5 := Lib.hid (R4.out.below D5.out R4.out.lt)
  have Z5 := Lib.hid (Z4.out.below D5.out Z4.out.lt)
  have B5 := Lib.hid (B4.out.trans (D5.out.mono B4.out.size))
  have L5 := Lib.hid (show w2.heap.size < w5.heap.size from Z5.out.lt)
  go_wp2_with (first
    | ((with_reducible refine load_row (o := ⟨some 50, _, _, _, _, _⟩) rfl _ _ rfl w.heap.size ?_ _ [.int .i64 t, .int .i64 vt, .int .i64 b, .int .i64 bt, .int .i64 f, .slice a n c, .slice ea en ec] _ S5.out Try.underlying25 rfl ?_ ?_); (focus go_simp); (focus (exact SS.out)))
    | ((with_reducible refine store_row (o := ⟨none, _, _, _, _, _⟩) rfl _ (.tmp 4) _ rfl w2.heap.size [.int .i64 t, .int .i64 vt, .int .i64 b, .int .i64 bt, .int .i64 f, .slice a n c, .slice ea en ec] ?_ ?_ 25 _ Z5.out ?_ ?_ ?_ ?_); (focus go_simp); (focus (first | (go_simp; done) | (go_simp; rfl))); (focus (exact SS.out)); (focus rfl); (focus (exact sv_one ⟨t, vt, b, bt, f, a, n, c, ea, en, ec⟩)); intro wz hr hu; have Ez := Lib.hid hr; have Bz := Lib.hid (B5.out.trans (hu.below B2.out.size)); clear hr hu))
  exact bodyPost_ret (results_row_tmp rfl _ _ w2.heap.size 25 _ _ _ (by go_simp) Ez.out Try.underlying25 rfl SS.out) rfl ⟨rfl, Bz.out⟩
set_option maxRecDepth 100000 in
set_option maxHeartbeats 16000000 in
theorem uapp_log4 (s : Sv) (d : List UInt8) (L : List (En × List UInt8)) (rt rv ix tm kd ri rf : Int) (xa ya : Option Addr) (xn xc yn yc : Nat) (l p : List UInt8) (w : World) (h : SvF w s d L) (hr : RcF w ⟨4, rt, rv, ⟨ix, tm, kd, xa, xn, xc⟩, ri, rf, ya, yn, yc⟩ l p) (hsl : s.en ≤ 1000000) (hck : chkU ⟨4, rt, rv, ⟨ix, tm, kd, xa, xn, xc⟩, ri, rf, ya, yn, yc⟩ l p = 0) (hq : ri ≤ s.b) :
    Calls Try.prog 13 #[.agg s.cells.toArray, .agg (Rc.cells ⟨4, rt, rv, ⟨ix, tm, kd, xa, xn, xc⟩, ri, rf, ya, yn, yc⟩).toArray] w fun x w' => x = .returned (.tuple #[.agg (Sv.cells s).toArray, .int .i64 10]) ∧ Below w.heap.size w w' := by
  obtain ⟨t, vt, b, bt, f, a, n, c, ea, en, ec⟩ := s
  have H := Lib.hid h
  have HD := Lib.hid h.rd
  have HLN := Lib.hid h.es.hlen
  have HC := Lib.hid h.es.hcells
  have HF := Lib.hid h.es.hfit
  have HR := Lib.hid hr
  have HRE := Lib.hid hr.e.rd
  have HRS := Lib.hid hr.rd
  have HNX := Lib.hid hr.e.rd.hlen
  have HNY := Lib.hid hr.rd.hlen
  have HCK := Lib.hid hck
  have SZ := Lib.hid sv_zero
  have SS := Lib.hid sv_size
  have RS := Lib.hid rc_size
  have EZ := Lib.hid en_zero
  have ES := Lib.hid en_size
  unfold Sv.cells Rc.cells
  dsimp only at hsl HLN HC HD HRE HRS HNX HNY ⊢
  clear h hr hck
  have hq1 : ri ≤ b := hq
  have hq2 : ¬ b < ri := by omega
  clear hq
  have CK := Lib.hid (fun (W : World) (hb : Below w.heap.size w W) => ucheckR ⟨4, rt, rv, ⟨ix, tm, kd, xa, xn, xc⟩, ri, rf, ya, yn, yc⟩ l p W (HRE.out.mono hb) (HRS.out.mono hb))
  rw [HCK.out] at CK
  unfold Rc.cells at CK
  dsimp only at CK
  go_enter Try.func13, Try.ntmps13
  go_wp2_with (first
    | (with_reducible refine box_row (o := ⟨some 2, _, _, _, _, _⟩) rfl _ _ rfl [.int .i64 t, .int .i64 vt, .int .i64 b, .int .i64 bt, .int .i64 f, .slice a n c, .slice ea en ec] rfl ?_; intro w1 hr1 hb1 hz1; have S1 := Lib.hid hr1; have B1 := Lib.hid hb1; clear hr1 hb1 hz1)
    | (with_reducible refine box_row (o := ⟨some 3, _, _, _, _, _⟩) rfl _ _ rfl [.int .i64 4, .int .i64 rt, .int .i64 rv, .int .i64 ix, .int .i64 tm, .int .i64 kd, .slice xa xn xc, .int .i64 ri, .int .i64 rf, .slice ya yn yc] rfl ?_; intro w2 hr2 hb2 hz2; have R2 := Lib.hid hr2; have S2 := Lib.hid (S1.out.below hb2 S1.out.lt); have L1 := Lib.hid (show w.heap.size < w1.heap.size from S1.out.lt); have B2 := Lib.hid (B1.out.trans (hb2.mono B1.out.size)); clear hr2 hb2 hz2)
    | ((with_reducible refine alloc_row (o := ⟨some 4, _, _, _, _, _⟩) rfl _ rfl _ SZ.out ?_); intro w3 hr3 hb3 hz3; have Z3 := Lib.hid hr3; have L2 := Lib.hid (show w1.heap.size < w2.heap.size from R2.out.lt); have S3 := Lib.hid (S2.out.below hb3 S2.out.lt); have R3 := Lib.hid (R2.out.below hb3 R2.out.lt); have B3 := Lib.hid (B2.out.trans (hb3.mono B2.out.size)); have L3 := Lib.hid (show w2.heap.size < w3.heap.size from hr3.lt); clear hr3 hb3 hz3)
    | ((with_reducible refine load_row (o := ⟨some 10, _, _, _, _, _⟩) rfl _ _ rfl w1.heap.size ?_ _ [.int .i64 4, .int .i64 rt, .int .i64 rv, .int .i64 ix, .int .i64 tm, .int .i64 kd, .slice xa xn xc, .int .i64 ri, .int .i64 rf, .slice ya yn yc] _ R3.out Try.underlying29 rfl ?_ ?_); (focus go_simp); (focus (exact RS.out)))
    | (go_at_call 58; (with_reducible refine (CK.out w3 B3.out).mono ?_); rintro x w4 ⟨rfl, hb⟩; have S4 := Lib.hid (S3.out.below hb S3.out.lt); have R4 := Lib.hid (R3.out.below hb R3.out.lt); have Z4 := Lib.hid (Z3.out.below hb Z3.out.lt); have B4 := Lib.hid (B3.out.trans (hb.mono B3.out.size)); have L4 := Lib.hid (show w2.heap.size < w4.heap.size from Z4.out.lt); clear hb)
    | fail)
  refine region_h (fun v => Below w4.heap.size w4 v) (by kernel_rfl) (by kernel_rfl) (Below.refl _ _).drew ?_
  obtain ⟨wd, hwd⟩ : ∃ wd, w4.drew = wd := ⟨_, rfl⟩
  have D0 : Hid (Below w4.heap.size w4 wd) := Lib.hid (by rw [← hwd]; exact (Below.refl _ _).drew)
  rw [hwd]
  clear hwd
  (refine h_read 0 rfl (by kernel_rfl) (by kernel_rfl) (h_free rfl) ?_ ?_ ?_; rotate_left; (focus (intro v hv; go_simp; rfl)); go_simp)
  (refine h_read 1 rfl (by kernel_rfl) (by kernel_rfl) (h_free rfl) ?_ ?_ ?_; rotate_left; (focus (intro v hv; obtain ⟨c0, c1, c2, c3, c4, c5, c6⟩ := (S4.out.below hv S4.out.lt).q7; obtain ⟨d0, d1, d2, d3, d4, d5, d6, d7, d8, d9⟩ := (R4.out.below hv R4.out.lt).q10; go_simp; rfl)); go_simp)
  (refine h_read 2 rfl (by kernel_rfl) (by kernel_rfl) (h_free rfl) ?_ ?_ ?_; rotate_left; (focus (intro v hv; go_simp; rfl)); go_simp)
  (refine h_read 3 rfl (by kernel_rfl) (by kernel_rfl) (h_free rfl) ?_ ?_ ?_; rotate_left; (focus (intro v hv; go_simp; rfl)); go_simp)
  (refine h_skip 4 rfl (by kernel_rfl) (by kernel_rfl) ?_ ?_; (focus (go_simp; first | done | (intro h; cases h) | simp)); go_simp)
  (refine h_skip 5 rfl (by kernel_rfl) (by kernel_rfl) ?_ ?_; (focus (go_simp; first | done | (intro h; cases h) | simp)); go_simp)
  (refine h_skip 6 rfl (by kernel_rfl) (by kernel_rfl) ?_ ?_; (focus (go_simp; first | done | (intro h; cases h) | simp)); go_simp)
  (refine h_skip 7 rfl (by kernel_rfl) (by kernel_rfl) ?_ ?_; (focus (go_simp; first | done | (intro h; cases h) | simp)); go_simp)
  (refine h_skip 8 rfl (by kernel_rfl) (by kernel_rfl) ?_ ?_; (focus (go_simp; first | done | (intro h; cases h) | simp)); go_simp)
  (refine h_skip 9 rfl (by kernel_rfl) (by kernel_rfl) ?_ ?_; (focus (go_simp; first | done | (intro h; cases h) | simp)); go_simp)
  (refine h_skip 10 rfl (by kernel_rfl) (by kernel_rfl) ?_ ?_; (focus (go_simp; first | done | (intro h; cases h) | simp)); go_simp)
  (refine h_read 11 rfl (by kernel_rfl) (by kernel_rfl) (h_free rfl) ?_ ?_ ?_; rotate_left; (focus (intro v hv; go_simp; rfl)); go_simp)
  (refine h_read 12 rfl (by kernel_rfl) (by kernel_rfl) (h_free rfl) ?_ ?_ ?_; rotate_left; (focus (intro v hv; go_simp; rfl)); go_simp)
  (refine h_read 13 rfl (by kernel_rfl) (by kernel_rfl) ?_ ?_ ?_ ?_; (focus (go_simp; done)); rotate_left; (focus (intro v hv; go_simp; rfl)); go_simp)
  (refine h_read 14 rfl (by kernel_rfl) (by kernel_rfl) ?_ ?_ ?_ ?_; (focus (go_simp; done)); rotate_left; (focus (intro v hv; obtain ⟨c0, c1, c2, c3, c4, c5, c6⟩ := (S4.out.below hv S4.out.lt).q7; obtain ⟨d0, d1, d2, d3, d4, d5, d6, d7, d8, d9⟩ := (R4.out.below hv R4.out.lt).q10; go_simp; rfl)); go_simp)
  (refine h_read 15 rfl (by kernel_rfl) (by kernel_rfl) ?_ ?_ ?_ ?_; (focus (go_simp; done)); rotate_left; (focus (intro v hv; go_simp; rfl)); go_simp)
  (refine h_read 16 rfl (by kernel_rfl) (by kernel_rfl) ?_ ?_ ?_ ?_; (focus (go_simp; done)); rotate_left; (focus (intro v hv; go_simp; rfl)); go_simp)
  (refine h_read 17 rfl (by kernel_rfl) (by kernel_rfl) ?_ ?_ ?_ ?_; (focus (go_simp; done)); rotate_left; (focus (intro v hv; go_simp; rfl)); go_simp)
  (refine h_read 18 rfl (by kernel_rfl) (by kernel_rfl) ?_ ?_ ?_ ?_; (focus (go_simp; done)); rotate_left; (focus (intro v hv; obtain ⟨c0, c1, c2, c3, c4, c5, c6⟩ := (S4.out.below hv S4.out.lt).q7; obtain ⟨d0, d1, d2, d3, d4, d5, d6, d7, d8, d9⟩ := (R4.out.below hv R4.out.lt).q10; go_simp; rfl)); go_simp)
  (refine h_read 19 rfl (by kernel_rfl) (by kernel_rfl) ?_ ?_ ?_ ?_; (focus (go_simp; done)); rotate_left; (focus (intro v hv; go_simp; rfl)); go_simp)
  (refine h_read 20 rfl (by kernel_rfl) (by kernel_rfl) ?_ ?_ ?_ ?_; (focus (go_simp; done)); rotate_left; (focus (intro v hv; obtain ⟨c0, c1, c2, c3, c4, c5, c6⟩ := (S4.out.below hv S4.out.lt).q7; obtain ⟨d0, d1, d2, d3, d4, d5, d6, d7, d8, d9⟩ := (R4.out.below hv R4.out.lt).q10; go_simp; rfl)); go_simp)
  (refine h_read 21 rfl (by kernel_rfl) (by kernel_rfl) ?_ ?_ ?_ ?_; (focus (go_simp; done)); rotate_left; (focus (intro v hv; go_simp; rfl)); go_simp)
  (refine h_read 22 rfl (by kernel_rfl) (by kernel_rfl) ?_ ?_ ?_ ?_; (focus (go_simp; done)); rotate_left; (focus (intro v hv; go_simp; rfl)); go_simp)
  (refine h_read 23 rfl (by kernel_rfl) (by kernel_rfl) (h_free rfl) ?_ ?_ ?_; rotate_left; (focus (intro v hv; go_simp; rfl)); go_simp)
  (refine h_read 24 rfl (by kernel_rfl) (by kernel_rfl) (h_free rfl) ?_ ?_ ?_; rotate_left; (focus (intro v hv; go_simp; rfl)); go_simp)
  (refine h_skip 25 rfl (by kernel_rfl) (by kernel_rfl) ?_ ?_; (focus (go_simp; first | done | (intro h; cases h) | simp)); go_simp)
  (refine h_skip 26 rfl (by kernel_rfl) (by kernel_rfl) ?_ ?_; (focus (go_simp; first | done | (intro h; cases h) | simp)); go_simp)
  (refine h_skip 27 rfl (by kernel_rfl) (by kernel_rfl) ?_ ?_; (focus (go_simp; first | done | (intro h; cases h) | simp)); go_simp)
  (refine h_skip 28 rfl (by kernel_rfl) (by kernel_rfl) ?_ ?_; (focus (go_simp; first | done | (intro h; cases h) | simp)); go_simp)
  (refine h_skip 29 rfl (by kernel_rfl) (by kernel_rfl) ?_ ?_; (focus (go_simp; first | done | (intro h; cases h) | simp)); go_simp)
  (refine h_skip 30 rfl (by kernel_rfl) (by kernel_rfl) ?_ ?_; (focus (go_simp; first | done | (intro h; cases h) | simp)); go_simp)
  (refine h_skip 31 rfl (by kernel_rfl) (by kernel_rfl) ?_ ?_; (focus (go_simp; first | done | (intro h; cases h) | simp)); go_simp)
  (refine h_skip 32 rfl (by kernel_rfl) (by kernel_rfl) ?_ ?_; (focus (go_simp; first | done | (intro h; cases h) | simp)); go_simp)
  (refine h_skip 33 rfl (by kernel_rfl) (by kernel_rfl) ?_ ?_; (focus (go_simp; first | done | (intro h; cases h) | simp)); go_simp)
  (refine h_skip 34 rfl (by kernel_rfl) (by kernel_rfl) ?_ ?_; (focus (go_simp; first | done | (intro h; cases h) | simp)); go_simp)
  (refine h_read 35 rfl (by kernel_rfl) (by kernel_rfl) (h_free rfl) ?_ ?_ ?_; rotate_left; (focus (intro v hv; go_simp; rfl)); go_simp)
  refine h_done (by kernel_rfl) ?_
  have D5 := D0
  obtain ⟨w5, hw5⟩ : ∃ x, wd = x := ⟨_, rfl⟩
  rw [hw5] at D5 ⊢
  clear D0 hw5
  have S5 := Lib.hid (S4.out.below D5.out S4.out.lt)
  have R5 := Lib.hid (R4.out.below D5.out R4.out.lt)
  have Z5 := Lib.hid (Z4.out.below D5.out Z4.out.lt)
  have B5 := Lib.hid (B4.out.trans (D5.out.mono B4.out.size))
  have L5 := Lib.hid (show w2.heap.size < w5.heap.size from Z5.out.lt)
  go_wp2_with (first
    | ((with_reducible refine load_row (o := ⟨some 50, _, _, _, _, _⟩) rfl _ _ rfl w.heap.size ?_ _ [.int .i64 t, .int .i64 vt, .int .i64 b, .int .i64 bt, .int .i64 f, .slice a n c, .slice ea en ec] _ S5.out Try.underlying25 rfl ?_ ?_); (focus go_simp); (focus (exact SS.out)))
    | ((with_reducible refine store_row (o := ⟨none, _, _, _, _, _⟩) rfl _ (.tmp 4) _ rfl w2.heap.size [.int .i64 t, .int .i64 vt, .int .i64 b, .int .i64 bt, .int .i64 f, .slice a n c, .slice ea en ec] ?_ ?_ 25 _ Z5.out ?_ ?_ ?_ ?_); (focus go_simp); (focus (first | (go_simp; done) | (go_simp; rfl))); (focus (exact SS.out)); (focus rfl); (focus (exact sv_one ⟨t, vt, b, bt, f, a, n, c, ea, en, ec⟩)); intro wz hr hu; have Ez := Lib.hid hr; have Bz := Lib.hid (B5.out.trans (hu.below B2.out.size)); clear hr hu))
  exact bodyPost_ret (results_row_tmp rfl _ _ w2.heap.size 25 _ _ _ (by go_simp) Ez.out Try.underlying25 rfl SS.out) rfl ⟨rfl, Bz.out⟩
theorem filt_next (L : List (En × List UInt8)) (K : En × List UInt8 → Bool) (q : Nat) (x : En × List UInt8) (hq : q < L.length) (hx : L.getD q Ez = x) : (L.take (q + 1)).filter K = (L.take q).filter K ++ (if K x then [x] else []) := by
  have h1 : L.take (q + 1) = L.take q ++ [x] := by
    rw [List.take_succ_eq_append_getElem hq, ← hx]
    simp [List.getD_eq_getElem?_getD, hq]
  rw [h1, List.filter_append]
  congr 1
  cases hK : K x <;> simp [hK]
theorem EnO.step {w w' : World} {ea ea' : Option Addr} {base : Nat} (hea : ∀ b off, ea = some ⟨b, off, none⟩ → base ≤ b) (hbase : base ≤ w.heap.size)
    (h : (∃ g, ea = some ⟨g, 0, none⟩ ∧ ea' = ea ∧ True ∧ True ∧ Upd w w' g) ∨ (ea' = some ⟨w.heap.size, 0, none⟩ ∧ Below w.heap.size w w')) : (∀ b off, ea' = some ⟨b, off, none⟩ → base ≤ b) ∧ Below base w w' := by
  rcases h with ⟨g, rfl, rfl, -, -, hu⟩ | ⟨rfl, hb⟩
  · exact ⟨hea, hu.below (hea g 0 rfl)⟩
  · exact ⟨fun b off e => by have : w.heap.size = b := congrArg Addr.block (Option.some.inj e); omega, hb.mono hbase⟩
theorem EnO.lt {w : World} {ea : Option Addr} {en ec : Nat} {M : List En} (h : EnO w ea en ec M) : ∀ b off, ea = some ⟨b, off, none⟩ → b < w.heap.size := by
  intro b off e
  rcases h.2 with ⟨rfl, -⟩ | ⟨g, R, rfl, hr, -⟩
  · cases e
  · have : g = b := congrArg Addr.block (Option.some.inj e)
    rw [← this]; exact hr.lt
/-- a world that has grown, but for a row of entries -/
structure GE (w w' : World) : Prop where
  rd : ∀ {a : Option Addr} {n c : Nat} {l : List UInt8}, Rd w a n c l → Rd w' a n c l
theorem GE.en {w w' : World} (h : GE w w') {e : En} {l : List UInt8} (k : EnF w e l) : EnF w' e l := ⟨k.ix, k.tm, k.kd, h.rd k.rd⟩
theorem grow_or {w w' : World} {ea ea' : Option Addr} {en ec ec' : Nat} (hO : ∃ M, Hid (EnO w ea en ec M)) (h : (∃ g, ea = some ⟨g, 0, none⟩ ∧ ea' = ea ∧ ec' = ec ∧ en < ec ∧ Upd w w' g) ∨ (ea' = some ⟨w.heap.size, 0, none⟩ ∧ Below w.heap.size w w')) : GE w w' := by
  rcases h with ⟨g, rfl, -, -, -, hu⟩ | ⟨-, hb⟩
  · obtain ⟨M, hM⟩ := hO
    rcases hM.out.2 with ⟨h0, -⟩ | ⟨g', R, he, hr, -⟩
    · cases h0
    · have : g = g' := congrArg Addr.block (Option.some.inj he)
      subst this
      exact ⟨fun h => h.put hr (NB_flat _) hu⟩
  · exact ⟨fun h => h.mono hb⟩
end Go.Proofs.Ytbcaphkbjeejhaa.W
