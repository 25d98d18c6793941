/- LAYER 11 (record): follows. -/
import Derived.Test.YtbcaphkbjeejhaaRcT
import Derived.BigRegion
set_option linter.unusedSimpArgs false
set_option linter.unusedVariables false
namespace Go.Proofs.Ytbcaphkbjeejhaa.W
open Go Go.ChangeShapes Go.WideShapes Go.ChangeAt Go.RowKit

/-- may a record that may be come behind what is saved -/
def follV (b : Int) (L : List (En × List UInt8)) (r : Rc) : Bool :=
  if r.k = 1 then decide (b ≤ r.i) else if r.k = 3 then (r.e.ix - 1 == lastV b L) else if r.k = 4 then decide (b < r.i) else true
set_option maxRecDepth 100000 in
set_option maxHeartbeats 8000000 in
theorem rfol1 (s : Sv) (d : List UInt8) (L : List (En × List UInt8)) (rt rv ix tm kd ri rf : Int) (xa ya : Option Addr) (xn xc yn yc : Nat) (w : World) (h : SvF w s d L) : Calls Try.prog 52 #[.agg s.cells.toArray, .agg (Rc.cells ⟨1, rt, rv, ⟨ix, tm, kd, xa, xn, xc⟩, ri, rf, ya, yn, yc⟩).toArray] w fun x w' => x = .returned (.bool (follV s.b L ⟨1, rt, rv, ⟨ix, tm, kd, xa, xn, xc⟩, ri, rf, ya, yn, yc⟩)) ∧ Below w.heap.size w w' := by
  have H := Lib.hid h
  obtain ⟨t, v, b, bt, f, a, n, c, ea, en, ec⟩ := s
  unfold Sv.cells Rc.cells
  dsimp only
  clear h
  go_enter Try.func52, Try.ntmps52
  go_wp2_with (first
    | (with_reducible refine box_row (o := ⟨some 2, _, _, _, _, _⟩) rfl _ _ rfl [.int .i64 t, .int .i64 v, .int .i64 b, .int .i64 bt, .int .i64 f, .slice a n c, .slice ea en ec] rfl ?_; intro w1 hr1 hb1 hz1; have S1 := Lib.hid hr1; have B1 := Lib.hid hb1; clear hr1 hb1 hz1)
    | (with_reducible refine box_row (o := ⟨some 3, _, _, _, _, _⟩) rfl _ _ rfl [.int .i64 1, .int .i64 rt, .int .i64 rv, .int .i64 ix, .int .i64 tm, .int .i64 kd, .slice xa xn xc, .int .i64 ri, .int .i64 rf, .slice ya yn yc] rfl ?_; intro w2 hr2 hb2 hz2; have R2 := Lib.hid hr2; have S2 := Lib.hid (S1.out.below hb2 S1.out.lt); have B2 := Lib.hid (B1.out.trans (hb2.mono B1.out.size)); obtain ⟨c0, c1, c2, c3, c4, c5, c6⟩ := S2.out.q7; obtain ⟨d0, d1, d2, d3, d4, d5, d6, d7, d8, d9⟩ := R2.out.q10; clear hr2 hb2 hz2))
  go_ret
  exact ⟨one (vbool (by unfold follV; dsimp only; rw [if_pos rfl])), B2.out⟩
set_option maxRecDepth 100000 in
set_option maxHeartbeats 8000000 in
theorem rfol2 (s : Sv) (d : List UInt8) (L : List (En × List UInt8)) (rt rv ix tm kd ri rf : Int) (xa ya : Option Addr) (xn xc yn yc : Nat) (w : World) (h : SvF w s d L) : Calls Try.prog 52 #[.agg s.cells.toArray, .agg (Rc.cells ⟨2, rt, rv, ⟨ix, tm, kd, xa, xn, xc⟩, ri, rf, ya, yn, yc⟩).toArray] w fun x w' => x = .returned (.bool (follV s.b L ⟨2, rt, rv, ⟨ix, tm, kd, xa, xn, xc⟩, ri, rf, ya, yn, yc⟩)) ∧ Below w.heap.size w w' := by
  have H := Lib.hid h
  obtain ⟨t, v, b, bt, f, a, n, c, ea, en, ec⟩ := s
  unfold Sv.cells Rc.cells
  dsimp only
  clear h
  go_enter Try.func52, Try.ntmps52
  go_wp2_with (first
    | (with_reducible refine box_row (o := ⟨some 2, _, _, _, _, _⟩) rfl _ _ rfl [.int .i64 t, .int .i64 v, .int .i64 b, .int .i64 bt, .int .i64 f, .slice a n c, .slice ea en ec] rfl ?_; intro w1 hr1 hb1 hz1; have S1 := Lib.hid hr1; have B1 := Lib.hid hb1; clear hr1 hb1 hz1)
    | (with_reducible refine box_row (o := ⟨some 3, _, _, _, _, _⟩) rfl _ _ rfl [.int .i64 2, .int .i64 rt, .int .i64 rv, .int .i64 ix, .int .i64 tm, .int .i64 kd, .slice xa xn xc, .int .i64 ri, .int .i64 rf, .slice ya yn yc] rfl ?_; intro w2 hr2 hb2 hz2; have R2 := Lib.hid hr2; have S2 := Lib.hid (S1.out.below hb2 S1.out.lt); have B2 := Lib.hid (B1.out.trans (hb2.mono B1.out.size)); obtain ⟨c0, c1, c2, c3, c4, c5, c6⟩ := S2.out.q7; obtain ⟨d0, d1, d2, d3, d4, d5, d6, d7, d8, d9⟩ := R2.out.q10; clear hr2 hb2 hz2))
  go_ret
  exact ⟨one (vbool (by unfold follV; dsimp only; rw [if_neg (by decide), if_neg (by decide), if_neg (by decide)])), B2.out⟩
set_option maxRecDepth 100000 in
set_option maxHeartbeats 8000000 in
theorem rfol3 (s : Sv) (d : List UInt8) (L : List (En × List UInt8)) (rt rv ix tm kd ri rf : Int) (xa ya : Option Addr) (xn xc yn yc : Nat) (w : World) (h : SvF w s d L) (h3 : 1 ≤ ix ∧ ix ≤ 2147483648) : Calls Try.prog 52 #[.agg s.cells.toArray, .agg (Rc.cells ⟨3, rt, rv, ⟨ix, tm, kd, xa, xn, xc⟩, ri, rf, ya, yn, yc⟩).toArray] w fun x w' => x = .returned (.bool (follV s.b L ⟨3, rt, rv, ⟨ix, tm, kd, xa, xn, xc⟩, ri, rf, ya, yn, yc⟩)) ∧ Below w.heap.size w w' := by
  have H := Lib.hid h
  obtain ⟨t, v, b, bt, f, a, n, c, ea, en, ec⟩ := s
  unfold Sv.cells Rc.cells
  dsimp only
  clear h
  have gw : IntKind.i64.wrap (ix - 1) = ix - 1 := by rw [IntKind.wrap_i64]; omega
  obtain ⟨z, hz⟩ : ∃ z, lastV b L = z := ⟨_, rfl⟩
  have HZ := Lib.hid hz
  clear hz h3
  go_enter Try.func52, Try.ntmps52
  go_wp2_with (first
    | (with_reducible refine box_row (o := ⟨some 2, _, _, _, _, _⟩) rfl _ _ rfl [.int .i64 t, .int .i64 v, .int .i64 b, .int .i64 bt, .int .i64 f, .slice a n c, .slice ea en ec] rfl ?_; intro w1 hr1 hb1 hz1; have S1 := Lib.hid hr1; have B1 := Lib.hid hb1; clear hr1 hb1 hz1)
    | (with_reducible refine box_row (o := ⟨some 3, _, _, _, _, _⟩) rfl _ _ rfl [.int .i64 3, .int .i64 rt, .int .i64 rv, .int .i64 ix, .int .i64 tm, .int .i64 kd, .slice xa xn xc, .int .i64 ri, .int .i64 rf, .slice ya yn yc] rfl ?_; intro w2 hr2 hb2 hz2; have R2 := Lib.hid hr2; have S2 := Lib.hid (S1.out.below hb2 S1.out.lt); have B2 := Lib.hid (B1.out.trans (hb2.mono B1.out.size)); obtain ⟨c0, c1, c2, c3, c4, c5, c6⟩ := S2.out.q7; obtain ⟨d0, d1, d2, d3, d4, d5, d6, d7, d8, d9⟩ := R2.out.q10; clear hr2 hb2 hz2))
  clear c0 c1 c2 c3 c4 c5 c6 d0 d1 d2 d3 d4 d5 d6 d7 d8 d9
  refine region_h (fun v => Below w2.heap.size w2 v) (by kernel_rfl) (by kernel_rfl) (Below.refl _ _).drew ?_
  obtain ⟨wd, hwd⟩ : ∃ wd, w2.drew = wd := ⟨_, rfl⟩
  have D0 : Hid (Below w2.heap.size w2 wd) := Lib.hid (by rw [← hwd]; exact (Below.refl _ _).drew)
  rw [hwd]
  clear hwd
  (refine h_read 0 rfl (by kernel_rfl) (by kernel_rfl) (h_free rfl) ?_ ?_ ?_; rotate_left; (focus (intro v hv; go_simp; rfl)); go_simp)
  (refine h_read 1 rfl (by kernel_rfl) (by kernel_rfl) (h_free rfl) ?_ ?_ ?_; rotate_left; (focus (intro v hv; go_simp; rfl)); go_simp)
  (refine h_read 2 rfl (by kernel_rfl) (by kernel_rfl) (h_free rfl) ?_ ?_ ?_; rotate_left; (focus (intro v hv; obtain ⟨c0, c1, c2, c3, c4, c5, c6⟩ := (S2.out.below hv S2.out.lt).q7; obtain ⟨d0, d1, d2, d3, d4, d5, d6, d7, d8, d9⟩ := (R2.out.below hv R2.out.lt).q10; go_simp; rfl)); go_simp)
  (refine h_read 3 rfl (by kernel_rfl) (by kernel_rfl) (h_free rfl) ?_ ?_ ?_; rotate_left; (focus (intro v hv; go_simp; rfl)); go_simp)
  (refine h_read 4 rfl (by kernel_rfl) (by kernel_rfl) (h_free rfl) ?_ ?_ ?_; rotate_left; (focus (intro v hv; obtain ⟨c0, c1, c2, c3, c4, c5, c6⟩ := (S2.out.below hv S2.out.lt).q7; obtain ⟨d0, d1, d2, d3, d4, d5, d6, d7, d8, d9⟩ := (R2.out.below hv R2.out.lt).q10; go_simp; rfl)); go_simp)
  (refine h_call 5 rfl (by kernel_rfl) (h_free rfl) 94 ?_ ?_ ?_; rotate_left; (focus (go_simp; rfl)))
  refine (rlast ⟨t, v, b, bt, f, a, n, c, ea, en, ec⟩ d L wd (H.out.mono (B2.out.trans (D0.out.mono B2.out.size)))).mono ?_
  rw [show lastV (Sv.b ⟨t, v, b, bt, f, a, n, c, ea, en, ec⟩) L = z from HZ.out]
  rintro x v1 ⟨rfl, hb⟩
  have J1 := Lib.hid (D0.out.trans (hb.mono D0.out.size))
  clear hb
  refine ⟨_, rfl, J1.out, ?_⟩
  go_simp
  (refine h_read 6 rfl (by kernel_rfl) (by kernel_rfl) (h_free rfl) ?_ ?_ ?_; rotate_left; (focus (intro v hv; go_simp; rfl)); go_simp)
  (refine h_read 7 rfl (by kernel_rfl) (by kernel_rfl) (h_free rfl) ?_ ?_ ?_; rotate_left; (focus (intro v hv; go_simp; rfl)); go_simp)
  refine h_done (by kernel_rfl) ?_
  go_wp2_with fail
  go_ret
  exact ⟨one (vbool (by unfold follV; dsimp only; rw [if_neg (by decide), if_pos rfl, HZ.out])), B2.out.trans (J1.out.mono B2.out.size)⟩
set_option maxRecDepth 100000 in
set_option maxHeartbeats 8000000 in
theorem rfol4 (s : Sv) (d : List UInt8) (L : List (En × List UInt8)) (rt rv ix tm kd ri rf : Int) (xa ya : Option Addr) (xn xc yn yc : Nat) (w : World) (h : SvF w s d L) : Calls Try.prog 52 #[.agg s.cells.toArray, .agg (Rc.cells ⟨4, rt, rv, ⟨ix, tm, kd, xa, xn, xc⟩, ri, rf, ya, yn, yc⟩).toArray] w fun x w' => x = .returned (.bool (follV s.b L ⟨4, rt, rv, ⟨ix, tm, kd, xa, xn, xc⟩, ri, rf, ya, yn, yc⟩)) ∧ Below w.heap.size w w' := by
  have H := Lib.hid h
  obtain ⟨t, v, b, bt, f, a, n, c, ea, en, ec⟩ := s
  unfold Sv.cells Rc.cells
  dsimp only
  clear h
  go_enter Try.func52, Try.ntmps52
  go_wp2_with (first
    | (with_reducible refine box_row (o := ⟨some 2, _, _, _, _, _⟩) rfl _ _ rfl [.int .i64 t, .int .i64 v, .int .i64 b, .int .i64 bt, .int .i64 f, .slice a n c, .slice ea en ec] rfl ?_; intro w1 hr1 hb1 hz1; have S1 := Lib.hid hr1; have B1 := Lib.hid hb1; clear hr1 hb1 hz1)
    | (with_reducible refine box_row (o := ⟨some 3, _, _, _, _, _⟩) rfl _ _ rfl [.int .i64 4, .int .i64 rt, .int .i64 rv, .int .i64 ix, .int .i64 tm, .int .i64 kd, .slice xa xn xc, .int .i64 ri, .int .i64 rf, .slice ya yn yc] rfl ?_; intro w2 hr2 hb2 hz2; have R2 := Lib.hid hr2; have S2 := Lib.hid (S1.out.below hb2 S1.out.lt); have B2 := Lib.hid (B1.out.trans (hb2.mono B1.out.size)); obtain ⟨c0, c1, c2, c3, c4, c5, c6⟩ := S2.out.q7; obtain ⟨d0, d1, d2, d3, d4, d5, d6, d7, d8, d9⟩ := R2.out.q10; clear hr2 hb2 hz2))
  go_ret
  exact ⟨one (vbool (by unfold follV; dsimp only; rw [if_neg (by decide), if_neg (by decide), if_pos rfl])), B2.out⟩
end Go.Proofs.Ytbcaphkbjeejhaa.W
