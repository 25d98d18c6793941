/- LAYER 11 (record): Same of both. -/
import Derived.Test.YtbcaphkbjeejhaaRcO
set_option linter.unusedSimpArgs false
set_option linter.unusedVariables false
namespace Go.Proofs.Ytbcaphkbjeejhaa.W
open Go Go.ChangeShapes Go.WideShapes Go.ChangeAt Go.RowKit
open Go.Proofs.Ytbcaphkbjeejhaa.P (enc dec)

set_option maxRecDepth 100000 in
set_option maxHeartbeats 8000000 in
theorem rsame (r s : Rc) (l m p q : List UInt8) (w : World) (hr : Rd w r.e.a r.e.n r.e.c l) (hs : Rd w s.e.a s.e.n s.e.c m) (hp : Rd w r.a r.n r.c p) (hq : Rd w s.a s.n s.c q) :
    Calls Try.prog 92 #[.agg r.cells.toArray, .agg s.cells.toArray] w fun x w' => x = .returned (.bool (sameR r s l m p q)) ∧ Below w.heap.size w w' := by
  obtain ⟨k, t, v, ⟨ix, tm, kd, a, n, c⟩, i, f, sa, sn, sc⟩ := r
  obtain ⟨k', t', v', ⟨ix', tm', kd', a', n', c'⟩, i', f', sa', sn', sc'⟩ := s
  obtain ⟨b0, h0⟩ : ∃ b, (k == k') = b := ⟨_, rfl⟩
  obtain ⟨b1, h1⟩ : ∃ b, (t == t') = b := ⟨_, rfl⟩
  obtain ⟨b2, h2⟩ : ∃ b, (v == v') = b := ⟨_, rfl⟩
  obtain ⟨b3, h3⟩ : ∃ b, (i == i') = b := ⟨_, rfl⟩
  obtain ⟨b4, h4⟩ : ∃ b, (f == f') = b := ⟨_, rfl⟩
  obtain ⟨b5, h5⟩ : ∃ b, sameE ⟨ix, tm, kd, a, n, c⟩ ⟨ix', tm', kd', a', n', c'⟩ l m = b := ⟨_, rfl⟩
  obtain ⟨b6, h6⟩ : ∃ b, decide (p = q) = b := ⟨_, rfl⟩
  have hx : sameR ⟨k, t, v, ⟨ix, tm, kd, a, n, c⟩, i, f, sa, sn, sc⟩ ⟨k', t', v', ⟨ix', tm', kd', a', n', c'⟩, i', f', sa', sn', sc'⟩ l m p q = (b0 && (b1 && (b2 && (b3 && (b4 && (b5 && b6)))))) := by unfold sameR; rw [h0, h1, h2, h3, h4, h5, ← h6]
  dsimp only at hr hs hp hq
  have HX := Lib.hid hx
  have HR := Lib.hid hr
  have HS := Lib.hid hs
  have HP := Lib.hid hp
  have HQ := Lib.hid hq
  have H5 := Lib.hid h5
  have H6 := Lib.hid h6
  unfold Rc.cells
  dsimp only
  clear hx hr hs hp hq h5 h6
  rcases ch7 b0 b1 b2 b3 b4 b5 b6 with rfl | ⟨rfl, rfl⟩ | ⟨rfl, rfl, rfl⟩ | ⟨rfl, rfl, rfl, rfl⟩ | ⟨rfl, rfl, rfl, rfl, rfl⟩ | ⟨rfl, rfl, rfl, rfl, rfl, rfl⟩ | ⟨rfl, rfl, rfl, rfl, rfl, rfl, rfl⟩ | ⟨rfl, rfl, rfl, rfl, rfl, rfl, rfl⟩
  all_goals
    go_enter Try.func92, Try.ntmps92
    go_wp2_with (first
      | (with_reducible refine box_row (o := ⟨some 2, _, _, _, _, _⟩) rfl _ _ rfl [.int .i64 k, .int .i64 t, .int .i64 v, .int .i64 ix, .int .i64 tm, .int .i64 kd, .slice a n c, .int .i64 i, .int .i64 f, .slice sa sn sc] rfl ?_; intro w1 hr1 hb1 hz1; have HR1 := Lib.hid hr1; have B1 := Lib.hid hb1; clear hr1 hb1 hz1)
      | (with_reducible refine box_row (o := ⟨some 3, _, _, _, _, _⟩) rfl _ _ rfl [.int .i64 k', .int .i64 t', .int .i64 v', .int .i64 ix', .int .i64 tm', .int .i64 kd', .slice a' n' c', .int .i64 i', .int .i64 f', .slice sa' sn' sc'] rfl ?_; intro w2 hr2 hb2 hz2; have HR2 := Lib.hid hr2; have HB2 := Lib.hid hb2; obtain ⟨c0, c1, c2, c3, c4, c5, c6, c7, c8, c9⟩ := (HR1.out.below hb2 HR1.out.lt).q10; obtain ⟨d0, d1, d2, d3, d4, d5, d6, d7, d8, d9⟩ := hr2.q10; have B2 := Lib.hid (B1.out.trans (hb2.mono B1.out.size)); skip; clear hr2 hb2 hz2)
      | (go_at_call 61; refine (rsameE ⟨ix, tm, kd, a, n, c⟩ ⟨ix', tm', kd', a', n', c'⟩ l m _ (HR.out.mono B2.out) (HS.out.mono B2.out)).mono ?_; rw [H5.out]; rintro x w3 ⟨rfl, hb3⟩; have B3 := Lib.hid (B2.out.trans (hb3.mono B2.out.size)); obtain ⟨c0, c1, c2, c3, c4, c5, c6, c7, c8, c9⟩ := ((HR1.out.below HB2.out HR1.out.lt).below hb3 (HR1.out.below HB2.out HR1.out.lt).lt).q10; obtain ⟨d0, d1, d2, d3, d4, d5, d6, d7, d8, d9⟩ := (HR2.out.below hb3 HR2.out.lt).q10; clear hb3)
      | (go_at_call 60; refine (bequal sa sa' sn sc sn' sc' p q _ (HP.out.mono B3.out) (HQ.out.mono B3.out)).mono ?_; rw [H6.out]; rintro x w' ⟨rfl, rfl⟩))
    go_ret
    exact ⟨one (vbool (by rw [HX.out]; simp)), by first | exact B3.out | exact B2.out⟩

set_option maxRecDepth 100000 in
set_option maxHeartbeats 8000000 in
theorem usame (r s : Rc) (l m p q : List UInt8) (w : World) (hr : Rd w r.e.a r.e.n r.e.c l) (hs : Rd w s.e.a s.e.n s.e.c m) (hp : Rd w r.a r.n r.c p) (hq : Rd w s.a s.n s.c q) :
    Calls Try.prog 97 #[.agg r.cells.toArray, .agg s.cells.toArray] w fun x w' => x = .returned (.bool (sameR r s l m p q)) ∧ Below w.heap.size w w' := by
  obtain ⟨k, t, v, ⟨ix, tm, kd, a, n, c⟩, i, f, sa, sn, sc⟩ := r
  obtain ⟨k', t', v', ⟨ix', tm', kd', a', n', c'⟩, i', f', sa', sn', sc'⟩ := s
  obtain ⟨b0, h0⟩ : ∃ b, (k == k') = b := ⟨_, rfl⟩
  obtain ⟨b1, h1⟩ : ∃ b, (t == t') = b := ⟨_, rfl⟩
  obtain ⟨b2, h2⟩ : ∃ b, (v == v') = b := ⟨_, rfl⟩
  obtain ⟨b3, h3⟩ : ∃ b, (i == i') = b := ⟨_, rfl⟩
  obtain ⟨b4, h4⟩ : ∃ b, (f == f') = b := ⟨_, rfl⟩
  obtain ⟨b5, h5⟩ : ∃ b, sameE ⟨ix, tm, kd, a, n, c⟩ ⟨ix', tm', kd', a', n', c'⟩ l m = b := ⟨_, rfl⟩
  obtain ⟨b6, h6⟩ : ∃ b, ((str p).toList == (str q).toList) = b := ⟨_, rfl⟩
  have hx : sameR ⟨k, t, v, ⟨ix, tm, kd, a, n, c⟩, i, f, sa, sn, sc⟩ ⟨k', t', v', ⟨ix', tm', kd', a', n', c'⟩, i', f', sa', sn', sc'⟩ l m p q = (b0 && (b1 && (b2 && (b3 && (b4 && (b5 && b6)))))) := by unfold sameR; rw [h0, h1, h2, h3, h4, h5, ← h6]; rw [str_eqb2, str_data, str_data]
  dsimp only at hr hs hp hq
  have HX := Lib.hid hx
  have HR := Lib.hid hr
  have HS := Lib.hid hs
  have HP := Lib.hid hp
  have HQ := Lib.hid hq
  have H5 := Lib.hid h5
  have H6 := Lib.hid h6
  unfold Rc.cells
  dsimp only
  clear hx hr hs hp hq h5
  rcases ch7 b0 b1 b2 b5 b3 b4 b6 with rfl | ⟨rfl, rfl⟩ | ⟨rfl, rfl, rfl⟩ | ⟨rfl, rfl, rfl, rfl⟩ | ⟨rfl, rfl, rfl, rfl, rfl⟩ | ⟨rfl, rfl, rfl, rfl, rfl, rfl⟩ | ⟨rfl, rfl, rfl, rfl, rfl, rfl, rfl⟩ | ⟨rfl, rfl, rfl, rfl, rfl, rfl, rfl⟩
  all_goals
    go_enter Try.func97, Try.ntmps97
    go_wp2_with (first
      | (with_reducible refine box_row (o := ⟨some 2, _, _, _, _, _⟩) rfl _ _ rfl [.int .i64 k, .int .i64 t, .int .i64 v, .int .i64 ix, .int .i64 tm, .int .i64 kd, .slice a n c, .int .i64 i, .int .i64 f, .slice sa sn sc] rfl ?_; intro w1 hr1 hb1 hz1; have HR1 := Lib.hid hr1; have B1 := Lib.hid hb1; clear hr1 hb1 hz1)
      | (with_reducible refine box_row (o := ⟨some 3, _, _, _, _, _⟩) rfl _ _ rfl [.int .i64 k', .int .i64 t', .int .i64 v', .int .i64 ix', .int .i64 tm', .int .i64 kd', .slice a' n' c', .int .i64 i', .int .i64 f', .slice sa' sn' sc'] rfl ?_; intro w2 hr2 hb2 hz2; have HR2 := Lib.hid hr2; have HB2 := Lib.hid hb2; obtain ⟨c0, c1, c2, c3, c4, c5, c6, c7, c8, c9⟩ := (HR1.out.below hb2 HR1.out.lt).q10; obtain ⟨d0, d1, d2, d3, d4, d5, d6, d7, d8, d9⟩ := hr2.q10; have B2 := Lib.hid (B1.out.trans (hb2.mono B1.out.size)); skip; clear hr2 hb2 hz2)
      | (go_at_call 18; refine (usameE ⟨ix, tm, kd, a, n, c⟩ ⟨ix', tm', kd', a', n', c'⟩ l m _ (HR.out.mono B2.out) (HS.out.mono B2.out)).mono ?_; rw [H5.out]; rintro x w3 ⟨rfl, hb3⟩; have B3 := Lib.hid (B2.out.trans (hb3.mono B2.out.size)); obtain ⟨c0, c1, c2, c3, c4, c5, c6, c7, c8, c9⟩ := ((HR1.out.below HB2.out HR1.out.lt).below hb3 (HR1.out.below HB2.out HR1.out.lt).lt).q10; obtain ⟨d0, d1, d2, d3, d4, d5, d6, d7, d8, d9⟩ := (HR2.out.below hb3 HR2.out.lt).q10; have cv1 := conv_rd (HP.out.mono B3.out); have cv2 := conv_rd (HQ.out.mono B3.out); clear hb3))
    go_ret
    exact ⟨one (vbool (by rw [HX.out]; simp)), by first | exact B3.out | exact B2.out⟩
end Go.Proofs.Ytbcaphkbjeejhaa.W
