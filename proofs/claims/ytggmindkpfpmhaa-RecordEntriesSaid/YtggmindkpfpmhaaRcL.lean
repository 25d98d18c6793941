/- LAYER 11 (record): the law RecordEntries. -/
import Derived.Test.YtggmindkpfpmhaaRcA
import Derived.Test.YtggmindkpfpmhaaRcI
set_option linter.unusedSimpArgs false
set_option linter.unusedVariables false
namespace Go.Proofs.Ytggmindkpfpmhaa.W
open Go Go.ChangeShapes Go.WideShapes Go.ChangeAt Go.RowKit
open Go.Proofs.Ytggmindkpfpmhaa.P (enc dec)

set_option maxHeartbeats 400000 in
theorem pleftR (p : Nat) (l : List UInt8) (e : Int) (w : World) (h : RP w p l e) :
    Calls Try.prog 31 #[.pointer (some ⟨p, 0, none⟩)] w fun x w' => x = .returned (.int .i64 (l.length : Int)) ∧ w = w' := by
  obtain ⟨a, cap, c0, c1, c2, f1, f2, -, -⟩ := h.cells
  clear h c0 c2 f1 f2
  go_enter Try.func31, Try.ntmps31
  go_wp2
  go_ret
  exact ⟨rfl, rfl⟩
theorem sameE_self (x y z : Int) (a a' : Option Addr) (n c n' c' : Nat) (d : List UInt8) : sameE ⟨x, y, z, a, n, c⟩ ⟨x, y, z, a', n', c'⟩ d d = true := by simp [sameE]
set_option maxRecDepth 100000 in
set_option maxHeartbeats 16000000 in
theorem law_RecordEntries (e f : En) (ba : Option Addr) (bm bc : Nat) (zs : List Int) (w : World) (we : ∃ l, EnF w e l) (wf : ∃ l, EnF w f l) (wb : IsRow .u8 w ba bm bc zs) :
    Calls Try.prog 4 #[.agg e.cells.toArray, .agg f.cells.toArray, .slice ba bm bc] w fun x w' => x = .returned (.bool true) ∧ Below w.heap.size w w' := by
  obtain ⟨le, he⟩ := we
  obtain ⟨lf, hf⟩ := wf
  have hB0 := Rd.of_row wb
  obtain ⟨lb, hlb⟩ : ∃ l, ((zs.take bm).map fun n => UInt8.ofNat n.toNat) = l := ⟨_, rfl⟩
  rw [hlb] at hB0
  have HE := Lib.hid he
  have HF := Lib.hid hf
  have HB := Lib.hid hB0
  clear wb hlb hB0
  have hen := he.rd.hlen
  have hfn := hf.rd.hlen
  clear he hf
  obtain ⟨ix, tm, kd, a, n, c⟩ := e
  obtain ⟨jx, jm, jd, a', n', c'⟩ := f
  dsimp only at hen hfn
  have HEN := Lib.hid hen
  have HFN := Lib.hid hfn
  clear hen hfn
  unfold En.cells
  dsimp only
  by_cases hbig : 5000 < n ∨ 5000 < n' ∨ 6000 < bm
  · have hs : (5000 < (n : Int)) ∨ (¬ 5000 < (n : Int) ∧ 5000 < (n' : Int)) ∨ (¬ 5000 < (n : Int) ∧ ¬ 5000 < (n' : Int) ∧ 6000 < (bm : Int)) := by omega
    clear hbig
    rcases hs with h1 | ⟨h1, h2⟩ | ⟨h1, h2, h3⟩
    all_goals
      go_enter Try.func4, Try.ntmps4
      go_wp2_with (first
        | (with_reducible refine box_row (o := ⟨some 3, _, _, _, _, _⟩) rfl _ _ rfl [.int .i64 ix, .int .i64 tm, .int .i64 kd, .slice a n c] rfl ?_; intro w1 hr1 hb1 hz1; have E1 := Lib.hid hr1; have B1 := Lib.hid hb1; clear hr1 hb1 hz1)
        | (with_reducible refine box_row (o := ⟨some 4, _, _, _, _, _⟩) rfl _ _ rfl [.int .i64 jx, .int .i64 jm, .int .i64 jd, .slice a' n' c'] rfl ?_; intro w2 hr2 hb2 hz2; have F2 := Lib.hid hr2; have E2 := Lib.hid (E1.out.below hb2 E1.out.lt); have B2 := Lib.hid (B1.out.trans (hb2.mono B1.out.size)); have EZ := Lib.hid en_zero; have ES := Lib.hid en_size; obtain ⟨c0, c1, c2, c3⟩ := E2.out.q4; obtain ⟨d0, d1, d2, d3⟩ := hr2.q4; clear hr2 hb2 hz2)
        | (go_at_call 9; refine (awake11 w2).mono ?_; rintro x w9 ⟨rfl, hb9⟩; have B9 := Lib.hid (B2.out.trans (hb9.mono B2.out.size)); clear hb9))
      go_ret
      exact ⟨rfl, B9.out⟩
  · have g1 : ¬ 5000 < (n : Int) := by omega
    have g2 : ¬ 5000 < (n' : Int) := by omega
    have g3 : ¬ 6000 < (bm : Int) := by omega
    obtain ⟨⟨rx, rm, rk, rd⟩, lR, eR, hR⟩ : ∃ q lR eR, rdE lb 0 = (q, lR, eR) := ⟨_, _, _, rfl⟩
    have HR := Lib.hid hR
    obtain ⟨o1, ho1⟩ : ∃ o, enOk ⟨ix, tm, kd, a, n, c⟩ = o := ⟨_, rfl⟩
    obtain ⟨o2, ho2⟩ : ∃ o, sameE ⟨ix, tm, kd, a, n, c⟩ ⟨jx, jm, jd, a', n', c'⟩ le lf = o := ⟨_, rfl⟩
    obtain ⟨pe, hpe⟩ : ∃ o, putE lb ⟨ix, tm, kd, a, n, c⟩ le = o := ⟨_, rfl⟩
    obtain ⟨pn, hpn⟩ : ∃ o, pe.length = o := ⟨_, rfl⟩
    have HO1 := Lib.hid ho1
    have HO2 := Lib.hid ho2
    have HPE := Lib.hid hpe
    have HPN := Lib.hid hpn
    clear hbig hR ho1 ho2 hpe hpn
    go_enter Try.func4, Try.ntmps4
    go_wp2_with (first
      | (with_reducible refine box_row (o := ⟨some 3, _, _, _, _, _⟩) rfl _ _ rfl [.int .i64 ix, .int .i64 tm, .int .i64 kd, .slice a n c] rfl ?_; intro w1 hr1 hb1 hz1; have E1 := Lib.hid hr1; have B1 := Lib.hid hb1; clear hr1 hb1 hz1)
      | (with_reducible refine box_row (o := ⟨some 4, _, _, _, _, _⟩) rfl _ _ rfl [.int .i64 jx, .int .i64 jm, .int .i64 jd, .slice a' n' c'] rfl ?_; intro w2 hr2 hb2 hz2; have F2 := Lib.hid hr2; have E2 := Lib.hid (E1.out.below hb2 E1.out.lt); have B2 := Lib.hid (B1.out.trans (hb2.mono B1.out.size)); have EZ := Lib.hid en_zero; have ES := Lib.hid en_size; obtain ⟨c0, c1, c2, c3⟩ := E2.out.q4; obtain ⟨d0, d1, d2, d3⟩ := hr2.q4; clear hr2 hb2 hz2)
      | (go_at_call 19; refine (popen ba bm bc lb w2 (HB.out.mono B2.out) (by omega)).mono ?_; rintro x w3 ⟨p, rfl, hp0, hp3, hb3⟩; have P3 := Lib.hid hp3; have PG := Lib.hid hp0; have E3 := Lib.hid (E2.out.below hb3 E2.out.lt); have F3 := Lib.hid (F2.out.below hb3 F2.out.lt); have B3 := Lib.hid (B2.out.trans (hb3.mono B2.out.size)); have EL := Lib.hid E2.out.lt; have FL := Lib.hid F2.out.lt; clear hp0 hp3 hb3 c0 c1 c2 c3 d0 d1 d2 d3)
      | (go_at_call 20; refine (ropen ba bm bc lb w3 (HB.out.mono B3.out) (by omega)).mono ?_; rintro x w4 ⟨q, rfl, hq0, hq4, hb4⟩; have Q4 := Lib.hid hq4; have QG := Lib.hid (Nat.le_trans (Nat.le_trans PG.out (Nat.le_of_lt P3.out.lt)) hq0); have P4 := Lib.hid (P3.out.mono hb4); have E4 := Lib.hid (E3.out.below hb4 E3.out.lt); have F4 := Lib.hid (F3.out.below hb4 F3.out.lt); have B4 := Lib.hid (B3.out.trans (hb4.mono B3.out.size)); clear hq0 hq4 hb4)
      | (go_at_call 21; refine (rreadE p lb 0 w4 P4.out rx rm rk rd lR eR HR.out).mono ?_; rintro x w5 ⟨xa, xn, xc, rfl, hx5, hp5, hg5⟩; have X5 := Lib.hid hx5; have P5 := Lib.hid hp5; have Q5 := Lib.hid (Q4.out.gw P4.out hg5); have E5 := Lib.hid (E4.out.gw hg5 (by have := EL.out; have := PG.out; omega)); have F5 := Lib.hid (F4.out.gw hg5 (by have := FL.out; have := PG.out; omega)); have DE5 := Lib.hid (((HE.out.rd.mono B4.out)).rp P4.out hg5); have DF5 := Lib.hid (((HF.out.rd.mono B4.out)).rp P4.out hg5); have DB5 := Lib.hid ((HB.out.mono B4.out).rp P4.out hg5); have B5 := Lib.hid (B4.out.trans (hg5.below (Nat.le_trans B2.out.size PG.out) B4.out.size)); clear hx5 hp5 hg5)
      | (go_at_call 22; refine (ureadE q lb 0 w5 Q5.out rx rm rk rd lR eR HR.out).mono ?_; rintro x w6 ⟨ya, yn, yc, rfl, hy6, hq6, hg6⟩; have Y6 := Lib.hid hy6; have Q6 := Lib.hid hq6; have P6 := Lib.hid (P5.out.gw Q5.out hg6); have X6 := Lib.hid (X5.out.rr Q5.out hg6); have E6 := Lib.hid (E5.out.gw hg6 (by have := EL.out; have := QG.out; omega)); have F6 := Lib.hid (F5.out.gw hg6 (by have := FL.out; have := QG.out; omega)); have DE6 := Lib.hid (DE5.out.rr Q5.out hg6); have DF6 := Lib.hid (DF5.out.rr Q5.out hg6); have DB6 := Lib.hid (DB5.out.rr Q5.out hg6); have B6 := Lib.hid (B5.out.trans (hg6.below (Nat.le_trans B2.out.size QG.out) B5.out.size)); clear hy6 hq6 hg6)
      | ((with_reducible refine alloc_row (o := ⟨some 9, _, _, _, _, _⟩) rfl _ rfl _ EZ.out ?_); intro w7 hr7 hb7 hz7; have X7 := Lib.hid hr7; have K7 := Lib.hid hb7; have Z7 := Lib.hid hz7; clear hr7 hb7 hz7)
      | ((with_reducible refine alloc_row (o := ⟨some 10, _, _, _, _, _⟩) rfl _ rfl _ EZ.out ?_); intro w8 hr8 hb8 hz8; have Y8 := Lib.hid hr8; have X8 := Lib.hid (X7.out.below hb8 X7.out.lt); have K8 := Lib.hid (K7.out.trans (hb8.mono K7.out.size)); clear hr8 hb8 hz8)
      | ((with_reducible refine store_row (o := ⟨none, _, _, _, _, _⟩) rfl _ (.tmp 9) _ rfl w6.heap.size (En.cells ⟨rx, rm, rk, xa, xn, xc⟩) ?_ ?_ 24 _ X8.out ?_ ?_ ?_ ?_); (focus go_simp); (focus (first | (go_simp; done) | (go_simp; rfl))); (focus (exact ES.out)); (focus rfl); (focus (exact en_one _)); intro w9 hr9 hu9; have X9 := Lib.hid hr9; have Y9 := Lib.hid (Y8.out.upd hu9 (by have := Z7.out; omega)); have K9 := Lib.hid (K8.out.trans (hu9.below (Nat.le_refl _))); clear hr9 hu9)
      | ((with_reducible refine store_row (o := ⟨none, _, _, _, _, _⟩) rfl _ (.tmp 10) _ rfl w7.heap.size (En.cells ⟨rx, rm, rk, ya, yn, yc⟩) ?_ ?_ 24 _ Y9.out ?_ ?_ ?_ ?_); (focus go_simp); (focus (first | (go_simp; done) | (go_simp; rfl))); (focus (exact ES.out)); (focus rfl); (focus (exact en_one _)); intro w10 hr10 hu10; have Y10 := Lib.hid hr10; have X10 := Lib.hid (X9.out.upd hu10 (by have := Z7.out; omega)); have K10 := Lib.hid (K9.out.trans (hu10.below (by have := Z7.out; omega))); clear hr10 hu10))
    have E10 := Lib.hid (E6.out.below K10.out E6.out.lt)
    have F10 := Lib.hid (F6.out.below K10.out F6.out.lt)
    have P10 := Lib.hid (P6.out.mono K10.out)
    have Q10 := Lib.hid (Q6.out.mono K10.out)
    have DE := Lib.hid (DE6.out.mono K10.out)
    have DF := Lib.hid (DF6.out.mono K10.out)
    have DB := Lib.hid (DB6.out.mono K10.out)
    have DX := Lib.hid (X6.out.mono K10.out)
    have DY := Lib.hid (Y6.out.mono K10.out)
    have B10 := Lib.hid (B6.out.trans (K10.out.mono B6.out.size))
    clear E2 F2 E3 F3 E4 F4 E5 F5 E6 F6 P3 P4 P5 P6 Q4 Q5 Q6 DE5 DE6 DF5 DF6 DB5 DB6 X5 X6 Y6 X7 X8 X9 Y8 Y9 K7 K8 K9 B3 B4 B5
    refine region_h (fun v => Below w10.heap.size w10 v) (by kernel_rfl) (by kernel_rfl) (Below.refl _ _).drew ?_
    obtain ⟨wd, hwd⟩ : ∃ wd, w10.drew = wd := ⟨_, rfl⟩
    have D0 : Hid (Below w10.heap.size w10 wd) := Lib.hid (by rw [← hwd]; exact (Below.refl _ _).drew)
    rw [hwd]
    clear hwd
    (refine h_read 0 rfl (by kernel_rfl) (by kernel_rfl) (h_free rfl) ?_ ?_ ?_; rotate_left; (focus (intro v hv; obtain ⟨c0, c1, c2, c3⟩ := (E10.out.below hv E10.out.lt).q4; obtain ⟨d0, d1, d2, d3⟩ := (F10.out.below hv F10.out.lt).q4; obtain ⟨x0, x1, x2, x3⟩ := (X10.out.below hv X10.out.lt).q4; obtain ⟨y0, y1, y2, y3⟩ := (Y10.out.below hv Y10.out.lt).q4; go_simp; rfl)); go_simp)
    (refine h_read 2 rfl (by kernel_rfl) (by kernel_rfl) (h_free rfl) ?_ ?_ ?_; rotate_left; (focus (intro v hv; obtain ⟨c0, c1, c2, c3⟩ := (E10.out.below hv E10.out.lt).q4; obtain ⟨d0, d1, d2, d3⟩ := (F10.out.below hv F10.out.lt).q4; obtain ⟨x0, x1, x2, x3⟩ := (X10.out.below hv X10.out.lt).q4; obtain ⟨y0, y1, y2, y3⟩ := (Y10.out.below hv Y10.out.lt).q4; go_simp; rfl)); go_simp)
    (refine h_call 1 rfl (by kernel_rfl) (h_free rfl) 23 ?_ ?_ ?_; rotate_left; (focus (go_simp; rfl)))
    refine (rentry ⟨ix, tm, kd, a, n, c⟩ wd).mono ?_
    rw [HO1.out]
    rintro x v1 ⟨rfl, hb⟩
    have J1 := Lib.hid (D0.out.trans (hb.mono D0.out.size))
    clear hb
    refine ⟨_, rfl, J1.out, ?_⟩
    go_simp
    (refine h_call 3 rfl (by kernel_rfl) (h_free rfl) 24 ?_ ?_ ?_; rotate_left; (focus (go_simp; rfl)))
    refine (uentry ⟨ix, tm, kd, a, n, c⟩ v1).mono ?_
    rw [HO1.out]
    rintro x v2 ⟨rfl, hb⟩
    have J2 := Lib.hid (J1.out.trans (hb.mono J1.out.size))
    clear hb
    refine ⟨_, rfl, J2.out, ?_⟩
    go_simp
    (refine h_read 4 rfl (by kernel_rfl) (by kernel_rfl) (h_free rfl) ?_ ?_ ?_; rotate_left; (focus (intro v hv; go_simp; rfl)); go_simp)
    (refine h_read 5 rfl (by kernel_rfl) (by kernel_rfl) (h_free rfl) ?_ ?_ ?_; rotate_left; (focus (intro v hv; go_simp; rfl)); go_simp)
    (refine h_read 6 rfl (by kernel_rfl) (by kernel_rfl) ?_ ?_ ?_ ?_; (focus (go_simp; done)); rotate_left; (focus (intro v hv; obtain ⟨c0, c1, c2, c3⟩ := (E10.out.below hv E10.out.lt).q4; obtain ⟨d0, d1, d2, d3⟩ := (F10.out.below hv F10.out.lt).q4; obtain ⟨x0, x1, x2, x3⟩ := (X10.out.below hv X10.out.lt).q4; obtain ⟨y0, y1, y2, y3⟩ := (Y10.out.below hv Y10.out.lt).q4; go_simp; rfl)); go_simp)
    (refine h_read 7 rfl (by kernel_rfl) (by kernel_rfl) ?_ ?_ ?_ ?_; (focus (go_simp; done)); rotate_left; (focus (intro v hv; obtain ⟨c0, c1, c2, c3⟩ := (E10.out.below hv E10.out.lt).q4; obtain ⟨d0, d1, d2, d3⟩ := (F10.out.below hv F10.out.lt).q4; obtain ⟨x0, x1, x2, x3⟩ := (X10.out.below hv X10.out.lt).q4; obtain ⟨y0, y1, y2, y3⟩ := (Y10.out.below hv Y10.out.lt).q4; go_simp; rfl)); go_simp)
    (refine h_read 9 rfl (by kernel_rfl) (by kernel_rfl) ?_ ?_ ?_ ?_; (focus (go_simp; done)); rotate_left; (focus (intro v hv; obtain ⟨c0, c1, c2, c3⟩ := (E10.out.below hv E10.out.lt).q4; obtain ⟨d0, d1, d2, d3⟩ := (F10.out.below hv F10.out.lt).q4; obtain ⟨x0, x1, x2, x3⟩ := (X10.out.below hv X10.out.lt).q4; obtain ⟨y0, y1, y2, y3⟩ := (Y10.out.below hv Y10.out.lt).q4; go_simp; rfl)); go_simp)
    (refine h_read 10 rfl (by kernel_rfl) (by kernel_rfl) ?_ ?_ ?_ ?_; (focus (go_simp; done)); rotate_left; (focus (intro v hv; obtain ⟨c0, c1, c2, c3⟩ := (E10.out.below hv E10.out.lt).q4; obtain ⟨d0, d1, d2, d3⟩ := (F10.out.below hv F10.out.lt).q4; obtain ⟨x0, x1, x2, x3⟩ := (X10.out.below hv X10.out.lt).q4; obtain ⟨y0, y1, y2, y3⟩ := (Y10.out.below hv Y10.out.lt).q4; go_simp; rfl)); go_simp)
    (refine h_call 8 rfl (by kernel_rfl) ?_ 25 ?_ ?_ ?_; (focus (go_simp; done)); rotate_left; (focus (go_simp; rfl)))
    refine (rsameE ⟨ix, tm, kd, a, n, c⟩ ⟨jx, jm, jd, a', n', c'⟩ le lf v2 (DE.out.mono J2.out) (DF.out.mono J2.out)).mono ?_
    rw [HO2.out]
    rintro x v3 ⟨rfl, hb⟩
    have J3 := Lib.hid (J2.out.trans (hb.mono J2.out.size))
    clear hb
    refine ⟨_, rfl, J3.out, ?_⟩
    go_simp
    (refine h_call 11 rfl (by kernel_rfl) ?_ 26 ?_ ?_ ?_; (focus (go_simp; done)); rotate_left; (focus (go_simp; rfl)))
    refine (usameE ⟨ix, tm, kd, a, n, c⟩ ⟨jx, jm, jd, a', n', c'⟩ le lf v3 (DE.out.mono J3.out) (DF.out.mono J3.out)).mono ?_
    rw [HO2.out]
    rintro x v4 ⟨rfl, hb⟩
    have J4 := Lib.hid (J3.out.trans (hb.mono J3.out.size))
    clear hb
    refine ⟨_, rfl, J4.out, ?_⟩
    go_simp
    (refine h_read 12 rfl (by kernel_rfl) (by kernel_rfl) ?_ ?_ ?_ ?_; (focus (go_simp; done)); rotate_left; (focus (intro v hv; go_simp; rfl)); go_simp)
    (refine h_read 13 rfl (by kernel_rfl) (by kernel_rfl) (h_free rfl) ?_ ?_ ?_; rotate_left; (focus (intro v hv; go_simp; rfl)); go_simp)
    (refine h_read 14 rfl (by kernel_rfl) (by kernel_rfl) (h_free rfl) ?_ ?_ ?_; rotate_left; (focus (intro v hv; go_simp; rfl)); go_simp)
    (refine h_read 15 rfl (by kernel_rfl) (by kernel_rfl) ?_ ?_ ?_ ?_; (focus (go_simp; done)); rotate_left; (focus (intro v hv; go_simp; rfl)); go_simp)
    (refine h_read 16 rfl (by kernel_rfl) (by kernel_rfl) ?_ ?_ ?_ ?_; (focus (go_simp; done)); rotate_left; (focus (intro v hv; obtain ⟨c0, c1, c2, c3⟩ := (E10.out.below hv E10.out.lt).q4; obtain ⟨d0, d1, d2, d3⟩ := (F10.out.below hv F10.out.lt).q4; obtain ⟨x0, x1, x2, x3⟩ := (X10.out.below hv X10.out.lt).q4; obtain ⟨y0, y1, y2, y3⟩ := (Y10.out.below hv Y10.out.lt).q4; go_simp; rfl)); go_simp)
    (refine h_read 18 rfl (by kernel_rfl) (by kernel_rfl) ?_ ?_ ?_ ?_; (focus (go_simp; done)); rotate_left; (focus (intro v hv; go_simp; rfl)); go_simp)
    (refine h_read 19 rfl (by kernel_rfl) (by kernel_rfl) ?_ ?_ ?_ ?_; (focus (go_simp; done)); rotate_left; (focus (intro v hv; obtain ⟨c0, c1, c2, c3⟩ := (E10.out.below hv E10.out.lt).q4; obtain ⟨d0, d1, d2, d3⟩ := (F10.out.below hv F10.out.lt).q4; obtain ⟨x0, x1, x2, x3⟩ := (X10.out.below hv X10.out.lt).q4; obtain ⟨y0, y1, y2, y3⟩ := (Y10.out.below hv Y10.out.lt).q4; go_simp; rfl)); go_simp)
    (refine h_call 17 rfl (by kernel_rfl) ?_ 27 ?_ ?_ ?_; (focus (go_simp; done)); rotate_left; (focus (go_simp; rfl)))
    refine (rputE ba bm bc lb ⟨ix, tm, kd, a, n, c⟩ le v4 (DB.out.mono J4.out) (by omega) (DE.out.mono J4.out)).mono ?_
    rw [HPE.out]
    rintro x v5 ⟨vv, rfl, hf, hb⟩
    obtain ⟨pa, pac, hv, hr⟩ := hf.form' pn HPN.out
    subst hv
    have Rpa := Lib.hid hr
    have J5 := Lib.hid (J4.out.trans (hb.mono J4.out.size))
    clear hf hr hb
    refine ⟨_, rfl, J5.out, ?_⟩
    go_simp
    (refine h_call 20 rfl (by kernel_rfl) ?_ 28 ?_ ?_ ?_; (focus (go_simp; done)); rotate_left; (focus (go_simp; rfl)))
    refine (uputE ba bm bc lb ⟨ix, tm, kd, a, n, c⟩ le v5 (DB.out.mono J5.out) (by omega) (DE.out.mono J5.out)).mono ?_
    rw [HPE.out]
    rintro x v6 ⟨vv, rfl, hf, hb⟩
    obtain ⟨ua, uac, hv, hr⟩ := hf.form' pn HPN.out
    subst hv
    have Rua := Lib.hid hr
    have J6 := Lib.hid (J5.out.trans (hb.mono J5.out.size))
    have Rpa := Lib.hid (Rpa.out.mono hb)
    clear hf hr hb
    refine ⟨_, rfl, J6.out, ?_⟩
    go_simp
    (refine h_call 21 rfl (by kernel_rfl) ?_ 12 ?_ ?_ ?_; (focus (go_simp; done)); rotate_left; (focus (go_simp; rfl)))
    refine (sequal pa ua pn pn pac uac pe pe v6 Rpa.out Rua.out).mono ?_
    rw [decide_eq_true rfl]
    rintro x v7 ⟨rfl, hq⟩
    have J7 := Lib.hid (J6.out.trans (hq.below _))
    clear hq
    refine ⟨_, rfl, J7.out, ?_⟩
    go_simp
    (refine h_read 22 rfl (by kernel_rfl) (by kernel_rfl) (h_free rfl) ?_ ?_ ?_; rotate_left; (focus (intro v hv; go_simp; rfl)); go_simp)
    (refine h_read 23 rfl (by kernel_rfl) (by kernel_rfl) (h_free rfl) ?_ ?_ ?_; rotate_left; (focus (intro v hv; go_simp; rfl)); go_simp)
    (refine h_read 24 rfl (by kernel_rfl) (by kernel_rfl) ?_ ?_ ?_ ?_; (focus (go_simp; done)); rotate_left; (focus (intro v hv; obtain ⟨c0, c1, c2, c3⟩ := (E10.out.below hv E10.out.lt).q4; obtain ⟨d0, d1, d2, d3⟩ := (F10.out.below hv F10.out.lt).q4; obtain ⟨x0, x1, x2, x3⟩ := (X10.out.below hv X10.out.lt).q4; obtain ⟨y0, y1, y2, y3⟩ := (Y10.out.below hv Y10.out.lt).q4; go_simp; rfl)); go_simp)
    (refine h_read 25 rfl (by kernel_rfl) (by kernel_rfl) ?_ ?_ ?_ ?_; (focus (go_simp; done)); rotate_left; (focus (intro v hv; obtain ⟨c0, c1, c2, c3⟩ := (E10.out.below hv E10.out.lt).q4; obtain ⟨d0, d1, d2, d3⟩ := (F10.out.below hv F10.out.lt).q4; obtain ⟨x0, x1, x2, x3⟩ := (X10.out.below hv X10.out.lt).q4; obtain ⟨y0, y1, y2, y3⟩ := (Y10.out.below hv Y10.out.lt).q4; go_simp; rfl)); go_simp)
    (refine h_call 26 rfl (by kernel_rfl) ?_ 26 ?_ ?_ ?_; (focus (go_simp; done)); rotate_left; (focus (go_simp; rfl)))
    refine (usameE ⟨rx, rm, rk, xa, xn, xc⟩ ⟨rx, rm, rk, ya, yn, yc⟩ rd rd v7 (DX.out.mono J7.out) (DY.out.mono J7.out)).mono ?_
    rw [sameE_self]
    rintro x v8 ⟨rfl, hb⟩
    have J8 := Lib.hid (J7.out.trans (hb.mono J7.out.size))
    clear hb
    refine ⟨_, rfl, J8.out, ?_⟩
    go_simp
    (refine h_read 27 rfl (by kernel_rfl) (by kernel_rfl) (h_free rfl) ?_ ?_ ?_; rotate_left; (focus (intro v hv; go_simp; rfl)); go_simp)
    (refine h_read 28 rfl (by kernel_rfl) (by kernel_rfl) (h_free rfl) ?_ ?_ ?_; rotate_left; (focus (intro v hv; go_simp; rfl)); go_simp)
    (refine h_read 29 rfl (by kernel_rfl) (by kernel_rfl) ?_ ?_ ?_ ?_; (focus (go_simp; done)); rotate_left; (focus (intro v hv; go_simp; rfl)); go_simp)
    (refine h_read 31 rfl (by kernel_rfl) (by kernel_rfl) ?_ ?_ ?_ ?_; (focus (go_simp; done)); rotate_left; (focus (intro v hv; go_simp; rfl)); go_simp)
    (refine h_call 30 rfl (by kernel_rfl) ?_ 29 ?_ ?_ ?_; (focus (go_simp; done)); rotate_left; (focus (go_simp; rfl)))
    refine (perr p lR eR v8 (P10.out.mono J8.out)).mono ?_
    rintro x w' ⟨rfl, rfl⟩
    refine ⟨_, rfl, J8.out, ?_⟩
    go_simp
    (refine h_call 32 rfl (by kernel_rfl) ?_ 30 ?_ ?_ ?_; (focus (go_simp; done)); rotate_left; (focus (go_simp; rfl)))
    refine (rerr q lR eR v8 (Q10.out.mono J8.out)).mono ?_
    rintro x w' ⟨rfl, rfl⟩
    refine ⟨_, rfl, J8.out, ?_⟩
    go_simp
    (refine h_read 33 rfl (by kernel_rfl) (by kernel_rfl) ?_ ?_ ?_ ?_; (focus (go_simp; done)); rotate_left; (focus (intro v hv; go_simp; rfl)); go_simp)
    (refine h_read 34 rfl (by kernel_rfl) (by kernel_rfl) (h_free rfl) ?_ ?_ ?_; rotate_left; (focus (intro v hv; go_simp; rfl)); go_simp)
    (refine h_read 35 rfl (by kernel_rfl) (by kernel_rfl) (h_free rfl) ?_ ?_ ?_; rotate_left; (focus (intro v hv; go_simp; rfl)); go_simp)
    (refine h_read 36 rfl (by kernel_rfl) (by kernel_rfl) ?_ ?_ ?_ ?_; (focus (go_simp; done)); rotate_left; (focus (intro v hv; go_simp; rfl)); go_simp)
    (refine h_read 38 rfl (by kernel_rfl) (by kernel_rfl) ?_ ?_ ?_ ?_; (focus (go_simp; done)); rotate_left; (focus (intro v hv; go_simp; rfl)); go_simp)
    (refine h_call 37 rfl (by kernel_rfl) ?_ 31 ?_ ?_ ?_; (focus (go_simp; done)); rotate_left; (focus (go_simp; rfl)))
    refine (pleftR p lR eR v8 (P10.out.mono J8.out)).mono ?_
    rintro x w' ⟨rfl, rfl⟩
    refine ⟨_, rfl, J8.out, ?_⟩
    go_simp
    (refine h_call 39 rfl (by kernel_rfl) ?_ 32 ?_ ?_ ?_; (focus (go_simp; done)); rotate_left; (focus (go_simp; rfl)))
    refine (rleft q lR eR v8 (Q10.out.mono J8.out)).mono ?_
    rintro x w' ⟨rfl, rfl⟩
    refine ⟨_, rfl, J8.out, ?_⟩
    go_simp
    (refine h_read 40 rfl (by kernel_rfl) (by kernel_rfl) ?_ ?_ ?_ ?_; (focus (go_simp; done)); rotate_left; (focus (intro v hv; go_simp; rfl)); go_simp)
    (refine h_read 41 rfl (by kernel_rfl) (by kernel_rfl) (h_free rfl) ?_ ?_ ?_; rotate_left; (focus (intro v hv; go_simp; rfl)); go_simp)
    (refine h_read 42 rfl (by kernel_rfl) (by kernel_rfl) (h_free rfl) ?_ ?_ ?_; rotate_left; (focus (intro v hv; go_simp; rfl)); go_simp)
    (refine h_call 43 rfl (by kernel_rfl) ?_ 9 ?_ ?_ ?_; (focus (go_simp; done)); rotate_left; (focus (go_simp; rfl)))
    refine (awake11 v8).mono ?_
    rintro x v9 ⟨rfl, hb⟩
    have J9 := Lib.hid (J8.out.trans (hb.mono J8.out.size))
    clear hb
    refine ⟨_, rfl, J9.out, ?_⟩
    go_simp
    (refine h_read 44 rfl (by kernel_rfl) (by kernel_rfl) (h_free rfl) ?_ ?_ ?_; rotate_left; (focus (intro v hv; go_simp; rfl)); go_simp)
    (refine h_read 45 rfl (by kernel_rfl) (by kernel_rfl) (h_free rfl) ?_ ?_ ?_; rotate_left; (focus (intro v hv; go_simp; rfl)); go_simp)
    refine h_done (by kernel_rfl) ?_
    go_wp2_with fail
    go_ret
    exact ⟨by simp, B10.out.trans (J9.out.mono B10.out.size)⟩
end Go.Proofs.Ytggmindkpfpmhaa.W
