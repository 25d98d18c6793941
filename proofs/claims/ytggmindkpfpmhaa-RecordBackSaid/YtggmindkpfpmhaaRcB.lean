/- LAYER 11 (record): few; the law RecordCodes. -/
import Derived.Test.YtggmindkpfpmhaaRcG
import Derived.Test.YtggmindkpfpmhaaRcA
import Derived.Test.YtggmindkpfpmhaaRcI
set_option linter.unusedSimpArgs false
set_option linter.unusedVariables false
namespace Go.Proofs.Ytggmindkpfpmhaa.W
open Go Go.ChangeShapes Go.WideShapes Go.ChangeAt Go.RowKit
open Go.Proofs.Ytggmindkpfpmhaa.P (enc dec)

def fewB (r : Rc) : Bool := decide (r.n ≤ 131172) && decide (r.e.n ≤ 5000)
theorem ch2b : ∀ b0 b1 : Bool, (b0 = false) ∨ (b0 = true ∧ b1 = false) ∨ (b0 = true ∧ b1 = true) := by intro b0 b1; cases b0 <;> cases b1 <;> simp
set_option maxRecDepth 100000 in
set_option maxHeartbeats 4000000 in
theorem rfew (r : Rc) (w : World) : Calls Try.prog 8 #[.agg r.cells.toArray] w fun x w' => x = .returned (.bool (fewB r)) ∧ Below w.heap.size w w' := by
  obtain ⟨k, t, v, ⟨ix, tm, kd, a, n, c⟩, i, f, sa, sn, sc⟩ := r
  obtain ⟨b0, h0⟩ : ∃ b, decide (sn ≤ 131172) = b := ⟨_, rfl⟩
  obtain ⟨b1, h1⟩ : ∃ b, decide (n ≤ 5000) = b := ⟨_, rfl⟩
  have HX := Lib.hid (show fewB ⟨k, t, v, ⟨ix, tm, kd, a, n, c⟩, i, f, sa, sn, sc⟩ = (b0 && b1) by unfold fewB; rw [h0, h1])
  have h0' : decide ((sn : Int) ≤ 131172) = b0 := by rw [← h0, decide_eq_decide]; omega
  have h1' : decide ((n : Int) ≤ 5000) = b1 := by rw [← h1, decide_eq_decide]; omega
  unfold Rc.cells
  dsimp only
  clear h0 h1
  rcases ch2b b0 b1 with rfl | ⟨rfl, rfl⟩ | ⟨rfl, rfl⟩
  all_goals
    go_enter Try.func8, Try.ntmps8
    go_wp2_with (first
      | (with_reducible refine box_row (o := ⟨some 1, _, _, _, _, _⟩) rfl _ _ rfl [.int .i64 k, .int .i64 t, .int .i64 v, .int .i64 ix, .int .i64 tm, .int .i64 kd, .slice a n c, .int .i64 i, .int .i64 f, .slice sa sn sc] rfl ?_; intro w1 hr1 hb1 hz1; obtain ⟨c0, c1, c2, c3, c4, c5, c6, c7, c8, c9⟩ := hr1.q10; have B1 := Lib.hid hb1; clear hr1 hb1 hz1))
    go_ret
    exact ⟨one (vbool (by rw [HX.out]; simp)), B1.out⟩
theorem rfewL (r : Rc) (w : World) : Calls Try.prog 8 #[.agg #[.int .i64 r.k, .int .i64 r.t, .int .i64 r.v, .int .i64 r.e.ix, .int .i64 r.e.tm, .int .i64 r.e.kd, .slice r.e.a r.e.n r.e.c, .int .i64 r.i, .int .i64 r.f, .slice r.a r.n r.c]] w fun x w' => x = .returned (.bool (fewB r)) ∧ Below w.heap.size w w' := rfew r w
theorem sameR_self (F : RF) (ea ea' a a' : Option Addr) (en en' ec ec' n n' c c' : Nat) (l s : List UInt8) : sameR (F.rc ea en ec a n c) (F.rc ea' en' ec' a' n' c') l l s s = true := by simp [sameR, sameE, RF.rc]
set_option maxRecDepth 100000 in
set_option maxHeartbeats 16000000 in
theorem law_RecordCodes (r s : Rc) (ba : Option Addr) (bm bc : Nat) (zs : List Int) (w : World) (wr : ∃ l p, RcF w r l p) (ws : ∃ m q, RcF w s m q) (wb : IsRow .u8 w ba bm bc zs) :
    Calls Try.prog 3 #[.agg r.cells.toArray, .agg s.cells.toArray, .slice ba bm bc] w fun x w' => x = .returned (.bool true) ∧ Below w.heap.size w w' := by
  obtain ⟨l, p, hr⟩ := wr
  obtain ⟨m, q, hs⟩ := ws
  have hB0 := Rd.of_row wb
  obtain ⟨lb, hlb⟩ : ∃ l, ((zs.take bm).map fun n => UInt8.ofNat n.toNat) = l := ⟨_, rfl⟩
  rw [hlb] at hB0
  have HRE := Lib.hid hr.e.rd
  have HRS := Lib.hid hr.rd
  have HSE := Lib.hid hs.e.rd
  have HSS := Lib.hid hs.rd
  have HB := Lib.hid hB0
  clear wb hlb hB0 hr hs
  obtain ⟨fr, hfr⟩ : ∃ o, fewB r = o := ⟨_, rfl⟩
  obtain ⟨fs, hfs⟩ : ∃ o, fewB s = o := ⟨_, rfl⟩
  have HFR := Lib.hid hfr
  have HFS := Lib.hid hfs
  clear hfr hfs
  rcases ch2b fr fs with rfl | ⟨rfl, rfl⟩ | ⟨rfl, rfl⟩
  · go_enter Try.func3, Try.ntmps3
    go_wp2_with (first
      | (with_reducible refine box_row (o := ⟨some 3, _, _, _, _, _⟩) rfl _ _ rfl r.cells rfl ?_; intro w1 hr1 hb1 hz1; have E1 := Lib.hid hr1; have B1 := Lib.hid hb1; clear hr1 hb1 hz1)
      | (with_reducible refine box_row (o := ⟨some 4, _, _, _, _, _⟩) rfl _ _ rfl s.cells rfl ?_; intro w2 hr2 hb2 hz2; have F2 := Lib.hid hr2; have E2 := Lib.hid (E1.out.below hb2 E1.out.lt); have B2 := Lib.hid (B1.out.trans (hb2.mono B1.out.size)); obtain ⟨c0, c1, c2, c3, c4, c5, c6, c7, c8, c9⟩ := E2.out.q10; obtain ⟨d0, d1, d2, d3, d4, d5, d6, d7, d8, d9⟩ := F2.out.q10; clear hr2 hb2 hz2)
      | (go_at_call 8; (with_reducible refine (rfewL r w2).mono ?_); rw [HFR.out]; rintro x w3 ⟨rfl, hb⟩; have E3 := Lib.hid (E2.out.below hb E2.out.lt); have F3 := Lib.hid (F2.out.below hb F2.out.lt); have B3 := Lib.hid (B2.out.trans (hb.mono B2.out.size)); clear hb c0 c1 c2 c3 c4 c5 c6 c7 c8 c9 d0 d1 d2 d3 d4 d5 d6 d7 d8 d9; obtain ⟨c0, c1, c2, c3, c4, c5, c6, c7, c8, c9⟩ := E3.out.q10; obtain ⟨d0, d1, d2, d3, d4, d5, d6, d7, d8, d9⟩ := F3.out.q10)
      | (go_at_call 9; refine (awake11 w3).mono ?_; rintro x w9 ⟨rfl, hb9⟩; have B9 := Lib.hid (B3.out.trans (hb9.mono B3.out.size)); clear hb9))
    go_ret
    exact ⟨rfl, B9.out⟩
  · go_enter Try.func3, Try.ntmps3
    go_wp2_with (first
      | (with_reducible refine box_row (o := ⟨some 3, _, _, _, _, _⟩) rfl _ _ rfl r.cells rfl ?_; intro w1 hr1 hb1 hz1; have E1 := Lib.hid hr1; have B1 := Lib.hid hb1; clear hr1 hb1 hz1)
      | (with_reducible refine box_row (o := ⟨some 4, _, _, _, _, _⟩) rfl _ _ rfl s.cells rfl ?_; intro w2 hr2 hb2 hz2; have F2 := Lib.hid hr2; have E2 := Lib.hid (E1.out.below hb2 E1.out.lt); have B2 := Lib.hid (B1.out.trans (hb2.mono B1.out.size)); obtain ⟨c0, c1, c2, c3, c4, c5, c6, c7, c8, c9⟩ := E2.out.q10; obtain ⟨d0, d1, d2, d3, d4, d5, d6, d7, d8, d9⟩ := F2.out.q10; clear hr2 hb2 hz2)
      | (go_at_call 8; (with_reducible refine (rfewL r w2).mono ?_); rw [HFR.out]; rintro x w3 ⟨rfl, hb⟩; have E3 := Lib.hid (E2.out.below hb E2.out.lt); have F3 := Lib.hid (F2.out.below hb F2.out.lt); have B3 := Lib.hid (B2.out.trans (hb.mono B2.out.size)); clear hb c0 c1 c2 c3 c4 c5 c6 c7 c8 c9 d0 d1 d2 d3 d4 d5 d6 d7 d8 d9; obtain ⟨c0, c1, c2, c3, c4, c5, c6, c7, c8, c9⟩ := E3.out.q10; obtain ⟨d0, d1, d2, d3, d4, d5, d6, d7, d8, d9⟩ := F3.out.q10)
      | (go_at_call 8; (with_reducible refine (rfewL s w3).mono ?_); rw [HFS.out]; rintro x w4 ⟨rfl, hb⟩; have E4 := Lib.hid (E3.out.below hb E3.out.lt); have F4 := Lib.hid (F3.out.below hb F3.out.lt); have B4 := Lib.hid (B3.out.trans (hb.mono B3.out.size)); clear hb c0 c1 c2 c3 c4 c5 c6 c7 c8 c9 d0 d1 d2 d3 d4 d5 d6 d7 d8 d9; obtain ⟨c0, c1, c2, c3, c4, c5, c6, c7, c8, c9⟩ := E4.out.q10; obtain ⟨d0, d1, d2, d3, d4, d5, d6, d7, d8, d9⟩ := F4.out.q10)
      | (go_at_call 9; refine (awake11 w4).mono ?_; rintro x w9 ⟨rfl, hb9⟩; have B9 := Lib.hid (B4.out.trans (hb9.mono B4.out.size)); clear hb9))
    go_ret
    exact ⟨rfl, B9.out⟩
  by_cases hbm : 6000 < (bm : Int)
  · go_enter Try.func3, Try.ntmps3
    go_wp2_with (first
      | (with_reducible refine box_row (o := ⟨some 3, _, _, _, _, _⟩) rfl _ _ rfl r.cells rfl ?_; intro w1 hr1 hb1 hz1; have E1 := Lib.hid hr1; have B1 := Lib.hid hb1; clear hr1 hb1 hz1)
      | (with_reducible refine box_row (o := ⟨some 4, _, _, _, _, _⟩) rfl _ _ rfl s.cells rfl ?_; intro w2 hr2 hb2 hz2; have F2 := Lib.hid hr2; have E2 := Lib.hid (E1.out.below hb2 E1.out.lt); have B2 := Lib.hid (B1.out.trans (hb2.mono B1.out.size)); obtain ⟨c0, c1, c2, c3, c4, c5, c6, c7, c8, c9⟩ := E2.out.q10; obtain ⟨d0, d1, d2, d3, d4, d5, d6, d7, d8, d9⟩ := F2.out.q10; clear hr2 hb2 hz2)
      | (go_at_call 8; (with_reducible refine (rfewL r w2).mono ?_); rw [HFR.out]; rintro x w3 ⟨rfl, hb⟩; have E3 := Lib.hid (E2.out.below hb E2.out.lt); have F3 := Lib.hid (F2.out.below hb F2.out.lt); have B3 := Lib.hid (B2.out.trans (hb.mono B2.out.size)); clear hb c0 c1 c2 c3 c4 c5 c6 c7 c8 c9 d0 d1 d2 d3 d4 d5 d6 d7 d8 d9; obtain ⟨c0, c1, c2, c3, c4, c5, c6, c7, c8, c9⟩ := E3.out.q10; obtain ⟨d0, d1, d2, d3, d4, d5, d6, d7, d8, d9⟩ := F3.out.q10)
      | (go_at_call 8; (with_reducible refine (rfewL s w3).mono ?_); rw [HFS.out]; rintro x w4 ⟨rfl, hb⟩; have E4 := Lib.hid (E3.out.below hb E3.out.lt); have F4 := Lib.hid (F3.out.below hb F3.out.lt); have B4 := Lib.hid (B3.out.trans (hb.mono B3.out.size)); clear hb c0 c1 c2 c3 c4 c5 c6 c7 c8 c9 d0 d1 d2 d3 d4 d5 d6 d7 d8 d9; obtain ⟨c0, c1, c2, c3, c4, c5, c6, c7, c8, c9⟩ := E4.out.q10; obtain ⟨d0, d1, d2, d3, d4, d5, d6, d7, d8, d9⟩ := F4.out.q10)
      | (go_at_call 9; refine (awake11 w4).mono ?_; rintro x w9 ⟨rfl, hb9⟩; have B9 := Lib.hid (B4.out.trans (hb9.mono B4.out.size)); clear hb9))
    go_ret
    exact ⟨rfl, B9.out⟩
  obtain ⟨ck, hck⟩ : ∃ o, chkR r l p = o := ⟨_, rfl⟩
  obtain ⟨sm, hsm⟩ : ∃ o, sameR r s l m p q = o := ⟨_, rfl⟩
  obtain ⟨pe, hpe⟩ : ∃ o, encV r l p = o := ⟨_, rfl⟩
  obtain ⟨pn, hpn⟩ : ∃ o, pe.length = o := ⟨_, rfl⟩
  obtain ⟨F, v, hd⟩ : ∃ x y, decV (rdR lb 0) = (x, y) := ⟨_, _, rfl⟩
  have HCK := Lib.hid hck
  have HSM := Lib.hid hsm
  have HPE := Lib.hid hpe
  have HPN := Lib.hid hpn
  have HD := Lib.hid hd
  have HM := Lib.hid (show bm ≤ 140737488355000 by omega)
  have RZ := Lib.hid rc_zero
  have RS := Lib.hid rc_size
  clear hck hsm hpe hpn hd
  go_enter Try.func3, Try.ntmps3
  go_wp2_with (first
    | (with_reducible refine box_row (o := ⟨some 3, _, _, _, _, _⟩) rfl _ _ rfl r.cells rfl ?_; intro w1 hr1 hb1 hz1; have E1 := Lib.hid hr1; have B1 := Lib.hid hb1; clear hr1 hb1 hz1)
    | (with_reducible refine box_row (o := ⟨some 4, _, _, _, _, _⟩) rfl _ _ rfl s.cells rfl ?_; intro w2 hr2 hb2 hz2; have F2 := Lib.hid hr2; have E2 := Lib.hid (E1.out.below hb2 E1.out.lt); have B2 := Lib.hid (B1.out.trans (hb2.mono B1.out.size)); obtain ⟨c0, c1, c2, c3, c4, c5, c6, c7, c8, c9⟩ := E2.out.q10; obtain ⟨d0, d1, d2, d3, d4, d5, d6, d7, d8, d9⟩ := F2.out.q10; clear hr2 hb2 hz2)
    | (go_at_call 8; (with_reducible refine (rfewL r w2).mono ?_); rw [HFR.out]; rintro x w3 ⟨rfl, hb⟩; have E3 := Lib.hid (E2.out.below hb E2.out.lt); have F3 := Lib.hid (F2.out.below hb F2.out.lt); have B3 := Lib.hid (B2.out.trans (hb.mono B2.out.size)); clear hb c0 c1 c2 c3 c4 c5 c6 c7 c8 c9 d0 d1 d2 d3 d4 d5 d6 d7 d8 d9; obtain ⟨c0, c1, c2, c3, c4, c5, c6, c7, c8, c9⟩ := E3.out.q10; obtain ⟨d0, d1, d2, d3, d4, d5, d6, d7, d8, d9⟩ := F3.out.q10)
    | (go_at_call 8; (with_reducible refine (rfewL s w3).mono ?_); rw [HFS.out]; rintro x w4 ⟨rfl, hb⟩; have E4 := Lib.hid (E3.out.below hb E3.out.lt); have F4 := Lib.hid (F3.out.below hb F3.out.lt); have B4 := Lib.hid (B3.out.trans (hb.mono B3.out.size)); clear hb c0 c1 c2 c3 c4 c5 c6 c7 c8 c9 d0 d1 d2 d3 d4 d5 d6 d7 d8 d9; obtain ⟨c0, c1, c2, c3, c4, c5, c6, c7, c8, c9⟩ := E4.out.q10; obtain ⟨d0, d1, d2, d3, d4, d5, d6, d7, d8, d9⟩ := F4.out.q10)
    | (go_at_call 10; refine (renc r l p w4 (HRE.out.mono B4.out) (HRS.out.mono B4.out)).mono ?_; rw [HCK.out, HPE.out]; rintro x w5 ⟨xa, xm, xc, rfl, hx, hb⟩; obtain rfl : xm = pn := (by rw [← HPN.out]; exact hx.hlen.symm); have X5 := Lib.hid hx; have E5 := Lib.hid (E4.out.below hb E4.out.lt); have F5 := Lib.hid (F4.out.below hb F4.out.lt); have B5 := Lib.hid (B4.out.trans (hb.mono B4.out.size)); clear hb hx c0 c1 c2 c3 c4 c5 c6 c7 c8 c9 d0 d1 d2 d3 d4 d5 d6 d7 d8 d9; obtain ⟨c0, c1, c2, c3, c4, c5, c6, c7, c8, c9⟩ := E5.out.q10; obtain ⟨d0, d1, d2, d3, d4, d5, d6, d7, d8, d9⟩ := F5.out.q10)
    | (go_at_call 11; refine (uenc r l p w5 (HRE.out.mono B5.out) (HRS.out.mono B5.out)).mono ?_; rw [HCK.out, HPE.out]; rintro x w6 ⟨ya, ym, yc, rfl, hy, hb⟩; obtain rfl : ym = xm := (by rw [← HPN.out]; exact hy.hlen.symm); have Y6 := Lib.hid hy; have X6 := Lib.hid (X5.out.mono hb); have E6 := Lib.hid (E5.out.below hb E5.out.lt); have F6 := Lib.hid (F5.out.below hb F5.out.lt); have B6 := Lib.hid (B5.out.trans (hb.mono B5.out.size)); clear hb hy c0 c1 c2 c3 c4 c5 c6 c7 c8 c9 d0 d1 d2 d3 d4 d5 d6 d7 d8 d9))
  clear X5 E1 E2 E3 E4 E5 F2 F3 F4 F5 B1 B2 B3 B4 B5
  refine region_h (fun v => Below w6.heap.size w6 v) (by kernel_rfl) (by kernel_rfl) (Below.refl _ _).drew ?_
  obtain ⟨wd, hwd⟩ : ∃ wd, w6.drew = wd := ⟨_, rfl⟩
  have D0 : Hid (Below w6.heap.size w6 wd) := Lib.hid (by rw [← hwd]; exact (Below.refl _ _).drew)
  rw [hwd]
  clear hwd
  (refine h_read 0 rfl (by kernel_rfl) (by kernel_rfl) (h_free rfl) ?_ ?_ ?_; rotate_left; (focus (intro v hv; go_simp; rfl)); go_simp)
  (refine h_read 1 rfl (by kernel_rfl) (by kernel_rfl) (h_free rfl) ?_ ?_ ?_; rotate_left; (focus (intro v hv; go_simp; rfl)); go_simp)
  (refine h_read 2 rfl (by kernel_rfl) (by kernel_rfl) (h_free rfl) ?_ ?_ ?_; rotate_left; (focus (intro v hv; go_simp; rfl)); go_simp)
  (refine h_read 3 rfl (by kernel_rfl) (by kernel_rfl) (h_free rfl) ?_ ?_ ?_; rotate_left; (focus (intro v hv; go_simp; rfl)); go_simp)
  (refine h_read 4 rfl (by kernel_rfl) (by kernel_rfl) ?_ ?_ ?_ ?_; (focus (go_simp; done)); rotate_left; (focus (intro v hv; go_simp; rfl)); go_simp)
  (refine h_read 5 rfl (by kernel_rfl) (by kernel_rfl) ?_ ?_ ?_ ?_; (focus (go_simp; done)); rotate_left; (focus (intro v hv; go_simp; rfl)); go_simp)
  (refine h_call 6 rfl (by kernel_rfl) ?_ 12 ?_ ?_ ?_; (focus (go_simp; done)); rotate_left; (focus (go_simp; rfl)))
  refine (sequal xa ya ym ym xc yc pe pe wd (X6.out.mono D0.out) (Y6.out.mono D0.out)).mono ?_
  rw [decide_eq_true rfl]
  rintro x v1 ⟨rfl, hq⟩
  have J1 := Lib.hid (D0.out.trans (hq.below _))
  clear hq
  refine ⟨_, rfl, J1.out, ?_⟩
  go_simp
  (refine h_read 7 rfl (by kernel_rfl) (by kernel_rfl) ?_ ?_ ?_ ?_; (focus (go_simp; done)); rotate_left; (focus (intro v hv; go_simp; rfl)); go_simp)
  (refine h_read 8 rfl (by kernel_rfl) (by kernel_rfl) (h_free rfl) ?_ ?_ ?_; rotate_left; (focus (intro v hv; go_simp; rfl)); go_simp)
  (refine h_read 9 rfl (by kernel_rfl) (by kernel_rfl) (h_free rfl) ?_ ?_ ?_; rotate_left; (focus (intro v hv; go_simp; rfl)); go_simp)
  (refine h_read 10 rfl (by kernel_rfl) (by kernel_rfl) ?_ ?_ ?_ ?_; (focus (go_simp; done)); rotate_left; (focus (intro v hv; obtain ⟨c0, c1, c2, c3, c4, c5, c6, c7, c8, c9⟩ := (E6.out.below hv E6.out.lt).q10; obtain ⟨d0, d1, d2, d3, d4, d5, d6, d7, d8, d9⟩ := (F6.out.below hv F6.out.lt).q10; go_simp; rfl)); go_simp)
  (refine h_read 12 rfl (by kernel_rfl) (by kernel_rfl) ?_ ?_ ?_ ?_; (focus (go_simp; done)); rotate_left; (focus (intro v hv; obtain ⟨c0, c1, c2, c3, c4, c5, c6, c7, c8, c9⟩ := (E6.out.below hv E6.out.lt).q10; obtain ⟨d0, d1, d2, d3, d4, d5, d6, d7, d8, d9⟩ := (F6.out.below hv F6.out.lt).q10; go_simp; rfl)); go_simp)
  (refine h_call 11 rfl (by kernel_rfl) ?_ 13 ?_ ?_ ?_; (focus (go_simp; done)); rotate_left; (focus (go_simp; rfl)))
  refine (rcheck r l p v1 (HRE.out.mono (B6.out.trans (J1.out.mono B6.out.size))) (HRS.out.mono (B6.out.trans (J1.out.mono B6.out.size)))).mono ?_
  rw [HCK.out]
  rintro x v2 ⟨rfl, hb⟩
  have J2 := Lib.hid (J1.out.trans (hb.mono J1.out.size))
  clear hb
  refine ⟨_, rfl, J2.out, ?_⟩
  go_simp
  (refine h_call 13 rfl (by kernel_rfl) ?_ 14 ?_ ?_ ?_; (focus (go_simp; done)); rotate_left; (focus (go_simp; rfl)))
  refine (ucheckR r l p v2 (HRE.out.mono (B6.out.trans (J2.out.mono B6.out.size))) (HRS.out.mono (B6.out.trans (J2.out.mono B6.out.size)))).mono ?_
  rw [chk_eq _ _ _ HRS.out.hlen, HCK.out]
  rintro x v3 ⟨rfl, hb⟩
  have J3 := Lib.hid (J2.out.trans (hb.mono J2.out.size))
  clear hb
  refine ⟨_, rfl, J3.out, ?_⟩
  go_simp
  (refine h_read 14 rfl (by kernel_rfl) (by kernel_rfl) ?_ ?_ ?_ ?_; (focus (go_simp; done)); rotate_left; (focus (intro v hv; go_simp; rfl)); go_simp)
  (refine h_read 15 rfl (by kernel_rfl) (by kernel_rfl) (h_free rfl) ?_ ?_ ?_; rotate_left; (focus (intro v hv; go_simp; rfl)); go_simp)
  (refine h_read 16 rfl (by kernel_rfl) (by kernel_rfl) (h_free rfl) ?_ ?_ ?_; rotate_left; (focus (intro v hv; go_simp; rfl)); go_simp)
  (refine h_read 17 rfl (by kernel_rfl) (by kernel_rfl) ?_ ?_ ?_ ?_; (focus (go_simp; done)); rotate_left; (focus (intro v hv; obtain ⟨c0, c1, c2, c3, c4, c5, c6, c7, c8, c9⟩ := (E6.out.below hv E6.out.lt).q10; obtain ⟨d0, d1, d2, d3, d4, d5, d6, d7, d8, d9⟩ := (F6.out.below hv F6.out.lt).q10; go_simp; rfl)); go_simp)
  (refine h_read 18 rfl (by kernel_rfl) (by kernel_rfl) ?_ ?_ ?_ ?_; (focus (go_simp; done)); rotate_left; (focus (intro v hv; obtain ⟨c0, c1, c2, c3, c4, c5, c6, c7, c8, c9⟩ := (E6.out.below hv E6.out.lt).q10; obtain ⟨d0, d1, d2, d3, d4, d5, d6, d7, d8, d9⟩ := (F6.out.below hv F6.out.lt).q10; go_simp; rfl)); go_simp)
  (refine h_read 20 rfl (by kernel_rfl) (by kernel_rfl) ?_ ?_ ?_ ?_; (focus (go_simp; done)); rotate_left; (focus (intro v hv; obtain ⟨c0, c1, c2, c3, c4, c5, c6, c7, c8, c9⟩ := (E6.out.below hv E6.out.lt).q10; obtain ⟨d0, d1, d2, d3, d4, d5, d6, d7, d8, d9⟩ := (F6.out.below hv F6.out.lt).q10; go_simp; rfl)); go_simp)
  (refine h_read 21 rfl (by kernel_rfl) (by kernel_rfl) ?_ ?_ ?_ ?_; (focus (go_simp; done)); rotate_left; (focus (intro v hv; obtain ⟨c0, c1, c2, c3, c4, c5, c6, c7, c8, c9⟩ := (E6.out.below hv E6.out.lt).q10; obtain ⟨d0, d1, d2, d3, d4, d5, d6, d7, d8, d9⟩ := (F6.out.below hv F6.out.lt).q10; go_simp; rfl)); go_simp)
  (refine h_call 19 rfl (by kernel_rfl) ?_ 15 ?_ ?_ ?_; (focus (go_simp; done)); rotate_left; (focus (go_simp; rfl)))
  refine (rsame r s l m p q v3 (HRE.out.mono (B6.out.trans (J3.out.mono B6.out.size))) (HSE.out.mono (B6.out.trans (J3.out.mono B6.out.size))) (HRS.out.mono (B6.out.trans (J3.out.mono B6.out.size))) (HSS.out.mono (B6.out.trans (J3.out.mono B6.out.size)))).mono ?_
  rw [HSM.out]
  rintro x v4 ⟨rfl, hb⟩
  have J4 := Lib.hid (J3.out.trans (hb.mono J3.out.size))
  clear hb
  refine ⟨_, rfl, J4.out, ?_⟩
  go_simp
  (refine h_call 22 rfl (by kernel_rfl) ?_ 16 ?_ ?_ ?_; (focus (go_simp; done)); rotate_left; (focus (go_simp; rfl)))
  refine (usame r s l m p q v4 (HRE.out.mono (B6.out.trans (J4.out.mono B6.out.size))) (HSE.out.mono (B6.out.trans (J4.out.mono B6.out.size))) (HRS.out.mono (B6.out.trans (J4.out.mono B6.out.size))) (HSS.out.mono (B6.out.trans (J4.out.mono B6.out.size)))).mono ?_
  rw [HSM.out]
  rintro x v5 ⟨rfl, hb⟩
  have J5 := Lib.hid (J4.out.trans (hb.mono J4.out.size))
  clear hb
  refine ⟨_, rfl, J5.out, ?_⟩
  go_simp
  (refine h_read 23 rfl (by kernel_rfl) (by kernel_rfl) ?_ ?_ ?_ ?_; (focus (go_simp; done)); rotate_left; (focus (intro v hv; go_simp; rfl)); go_simp)
  (refine h_read 24 rfl (by kernel_rfl) (by kernel_rfl) (h_free rfl) ?_ ?_ ?_; rotate_left; (focus (intro v hv; go_simp; rfl)); go_simp)
  refine h_done (by kernel_rfl) ?_
  have B7 := Lib.hid (B6.out.trans (J5.out.mono B6.out.size))
  clear E6 F6 X6 Y6 J1 J2 J3 J4 D0
  go_wp2_with (first
    | (go_at_call 17; refine (rdecode ba bm bc lb v5 (HB.out.mono B7.out) HM.out F v HD.out).mono ?_; rintro x w8 ⟨ea, en, ec, a', n', c', rfl, h1, h2, hb⟩; have D8 := Lib.hid h1; have S8 := Lib.hid h2; have B8 := Lib.hid (B7.out.trans (hb.mono B7.out.size)); clear h1 h2 hb)
    | ((with_reducible refine alloc_row (o := ⟨some 11, _, _, _, _, _⟩) rfl _ rfl _ RZ.out ?_); intro w9 hr hb hz; have G9 := Lib.hid hr; have D9 := Lib.hid (D8.out.mono hb); have S9 := Lib.hid (S8.out.mono hb); have B9 := Lib.hid (B8.out.trans (hb.mono B8.out.size)); clear hr hb hz)
    | ((with_reducible refine store_row (o := ⟨none, _, _, _, _, _⟩) rfl _ (.tmp 11) _ rfl w8.heap.size (F.rc ea en ec a' n' c').cells ?_ ?_ 26 _ G9.out ?_ ?_ ?_ ?_); (focus go_simp); (focus (first | (go_simp; done) | (go_simp; rfl))); (focus (exact RS.out)); (focus rfl); (focus (exact rc_one _)); intro w10 hr hu; have G10 := Lib.hid hr; have D10 := Lib.hid (D9.out.put G9.out (NB_rc _) hu); have S10 := Lib.hid (S9.out.put G9.out (NB_rc _) hu); have B10 := Lib.hid (B9.out.trans (hu.below B8.out.size)); clear hr hu)
    | (go_at_call 18; refine (udecode ba bm bc lb w10 (HB.out.mono B10.out) HM.out F v HD.out).mono ?_; rintro x w11 ⟨fa, fn, fc, b', m', k', rfl, h1, h2, hb⟩; have G11 := Lib.hid (G10.out.below hb G10.out.lt); have D11 := Lib.hid (D10.out.mono hb); have S11 := Lib.hid (S10.out.mono hb); have T11 := Lib.hid h1; have U11 := Lib.hid h2; have B11 := Lib.hid (B10.out.trans (hb.mono B10.out.size)); clear h1 h2 hb)
    | ((with_reducible refine alloc_row (o := ⟨some 13, _, _, _, _, _⟩) rfl _ rfl _ RZ.out ?_); intro w12 hr hb hz; have H12 := Lib.hid hr; have G12 := Lib.hid (G11.out.below hb G11.out.lt); have GL := Lib.hid (show w8.heap.size < w11.heap.size from G11.out.lt); have D12 := Lib.hid (D11.out.mono hb); have S12 := Lib.hid (S11.out.mono hb); have T12 := Lib.hid (T11.out.mono hb); have U12 := Lib.hid (U11.out.mono hb); have B12 := Lib.hid (B11.out.trans (hb.mono B11.out.size)); clear hr hb hz)
    | ((with_reducible refine store_row (o := ⟨none, _, _, _, _, _⟩) rfl _ (.tmp 13) _ rfl w11.heap.size (F.rc fa fn fc b' m' k').cells ?_ ?_ 26 _ H12.out ?_ ?_ ?_ ?_); (focus go_simp); (focus (first | (go_simp; done) | (go_simp; rfl))); (focus (exact RS.out)); (focus rfl); (focus (exact rc_one _)); intro w13 hr hu; have H13 := Lib.hid hr; have G13 := Lib.hid (G12.out.upd hu (by have := GL.out; omega)); have D13 := Lib.hid (D12.out.put H12.out (NB_rc _) hu); have S13 := Lib.hid (S12.out.put H12.out (NB_rc _) hu); have T13 := Lib.hid (T12.out.put H12.out (NB_rc _) hu); have U13 := Lib.hid (U12.out.put H12.out (NB_rc _) hu); have B13 := Lib.hid (B12.out.trans (hu.below B11.out.size)); obtain ⟨c0, c1, c2, c3, c4, c5, c6, c7, c8, c9⟩ := hr.q10; obtain ⟨d0, d1, d2, d3, d4, d5, d6, d7, d8, d9⟩ := G13.out.q10; clear hr hu)
    | (go_at_call 16; refine (usame (F.rc ea en ec a' n' c') (F.rc fa fn fc b' m' k') F.dt F.dt F.sn F.sn w13 D13.out T13.out S13.out U13.out).mono ?_; rw [sameR_self]; rintro x w14 ⟨rfl, hb⟩; have B14 := Lib.hid (B13.out.trans (hb.mono B13.out.size)); clear hb c0 c1 c2 c3 c4 c5 c6 c7 c8 c9 d0 d1 d2 d3 d4 d5 d6 d7 d8 d9)
    | (go_at_call 9; refine (awake11 w14).mono ?_; rintro x w15 ⟨rfl, hb⟩; have B15 := Lib.hid (B14.out.trans (hb.mono B14.out.size)); clear hb))
  go_ret
  exact ⟨by simp, B15.out⟩
end Go.Proofs.Ytggmindkpfpmhaa.W
