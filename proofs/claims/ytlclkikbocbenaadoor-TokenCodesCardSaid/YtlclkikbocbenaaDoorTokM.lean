/- LAYER 8 (token): which tokens are small. THE LAW TokenTag: a token that opens does not open with any other tag. -/
import Derived.Test.YtlclkikbocbenaaDoorTokK
set_option linter.unusedSimpArgs false
set_option linter.unusedVariables false
namespace Go.Proofs.YtlclkikbocbenaaDoor.W
open Go Go.ChangeShapes Go.WideShapes Go.ChangeAt Go.RowKit
open Go.Proofs.YtlclkikbocbenaaDoor.P (enc)

def few8V (L : List Cv) (tag : ByteArray) : Bool := (decide (L.length ≤ 20) && L.all fun c => decide (c.name.size ≤ 200)) && decide (tag.size ≤ 200)
theorem few8_facts {L : List Cv} {tag : ByteArray} (h : few8V L tag = true) : L.length ≤ 20 ∧ tag.size ≤ 200 := by
  unfold few8V at h
  simp only [Bool.and_eq_true, decide_eq_true_eq] at h
  exact ⟨h.1.1, h.2⟩

set_option maxRecDepth 100000 in
set_option maxHeartbeats 4000000 in
theorem few8_any (lane id epoch : Int) (a : Option Addr) (len cap : Nat) (L : List Cv) (tag : ByteArray) (w : World) (h : Cvs w a len cap L) :
    Calls Tryd.prog 15 #[.agg #[.int .i64 lane, .int .i64 id, .int .i64 epoch, .slice a len cap, .string tag]] w fun e w' => e = .returned (.bool (few8V L tag)) ∧ Below w.heap.size w w' := by
  obtain ⟨r, hr⟩ : ∃ r, few8V L tag = r := ⟨_, rfl⟩
  rw [hr]
  have HR := Lib.hid hr
  have HL := Lib.hid h.hlen
  have H := Lib.hid h
  clear hr h
  go_enter Tryd.func15, Tryd.ntmps15
  go_wp2_with ((with_reducible refine box_row (o := ⟨some 1, _, _, _, _, _⟩) rfl _ _ rfl [.int .i64 lane, .int .i64 id, .int .i64 epoch, .slice a len cap, .string tag] rfl ?_); intro w1 hr1 hb1 hz1; have T1 := Lib.hid hr1; have B1 := Lib.hid hb1; clear hr1 hb1 hz1; obtain ⟨g0, g1, g2, g3, g4⟩ := T1.out.t5)
  clear g0 g1 g2 g3 g4
  go_loopw [8] (fun i wr => ∃ (k : Nat), i = .int .i64 (k : Int) ∧ k ≤ len ∧ k ≤ 20 ∧ Hid ((L.take k).all (fun c => decide (c.name.size ≤ 200)) = true) ∧ Hid (Row wr w.heap.size 25 [.int .i64 lane, .int .i64 id, .int .i64 epoch, .slice a len cap, .string tag]) ∧ Hid (Below w.heap.size w wr)) (fun i _ => len - (intOf i).toNat)
  case atStart => exact ⟨0, rfl, Nat.zero_le _, by omega, Lib.hid rfl, T1, B1⟩
  case round =>
    obtain ⟨k, rfl, hk, hk20, HA, T, HB⟩ := hrel
    by_cases hlt : k < len
    · obtain ⟨b, off, rfl, hblt, hcell⟩ := H.out.at (by omega)
      obtain ⟨x0, x1, x2⟩ := hcell k hlt
      have hn := (H.out.fitAt hlt).2.2
      have hst := all_step (p := fun c => decide (c.name.size ≤ 200)) (show k < L.length by rw [HL.out]; exact hlt)
      have hbad := all_bad (p := fun c => decide (c.name.size ≤ 200)) (show k < L.length by rw [HL.out]; exact hlt)
      rcases hce : L.getD k default with ⟨kind, num, name⟩
      rw [hce] at x0 x1 x2 hn hst hbad
      simp only at x0 x1 x2 hn hst hbad
      rw [← HB.out.cell (p := ⟨b, off + k * 3, none⟩) hblt] at x0
      rw [← HB.out.cell (p := ⟨b, off + k * 3 + 1, none⟩) hblt] at x1
      rw [← HB.out.cell (p := ⟨b, off + k * 3 + 2, none⟩) hblt] at x2
      unfold maxLen at hn
      clear hcell hce
      have TN := Lib.hid (fun o => T.out.alloc o)
      have BN := Lib.hid (fun o => HB.out.alloc HB.out.size o)
      by_cases hk3 : 20 ≤ k
      · have HF := Lib.hid (show r = false from by rw [← HR.out]; unfold few8V; rw [decide_eq_false (by rw [HL.out]; omega), Bool.false_and, Bool.false_and])
        clear hst hbad
        go_wp2_with fail
        go_ret
        exact ⟨by rw [HF.out]; rfl, BN.out _⟩
      · by_cases hn2 : 200 < name.size
        · have HF := Lib.hid (show r = false from by rw [← HR.out]; unfold few8V; rw [hbad (decide_eq_false (by omega)), Bool.and_false, Bool.false_and])
          clear hst hbad
          go_wp2_with fail
          go_ret
          exact ⟨by rw [HF.out]; rfl, BN.out _⟩
        · rw [HA.out, decide_eq_true (by omega)] at hst
          have HA' := Lib.hid (show (L.take (k + 1)).all (fun c => decide (c.name.size ≤ 200)) = true from hst)
          clear hst hbad HA
          go_wp2_with fail
          go_roundw
          case rel => exact ⟨k + 1, vint (by omega), by omega, by omega, HA', Lib.hid (TN.out _), Lib.hid (BN.out _)⟩
          case measure => simp [intOf]; omega
    · obtain rfl : len = k := by omega
      have hall := all_end HL.out HA.out
      obtain ⟨g0, g1, g2, g3, g4⟩ := T.out.t5
      by_cases ht : tag.size ≤ 200
      · have HF := Lib.hid (show r = true from by rw [← HR.out]; unfold few8V; rw [decide_eq_true (by rw [HL.out]; omega), hall, decide_eq_true ht]; rfl)
        clear hall
        go_wp2_with fail
        go_ret
        exact ⟨by rw [HF.out]; first | rfl | (simp; omega), HB.out⟩
      · have HF := Lib.hid (show r = false from by rw [← HR.out]; unfold few8V; rw [decide_eq_false ht, Bool.and_false])
        clear hall
        go_wp2_with fail
        go_ret
        exact ⟨by rw [HF.out]; first | rfl | (simp; omega), HB.out⟩

theorem tk_tag {s : ByteArray} {lane id epoch : Int} {L : List Cv} {tag : ByteArray} (tg : ByteArray) (h : openV s lane id epoch L tag = true) : openV s lane id epoch L tg = (tg.toList == tag.toList) := by
  rw [str_eqb]
  unfold openV at *
  simp only [Bool.and_eq_true, decide_eq_true_eq] at h
  by_cases he : tg.data.toList = tag.data.toList
  · have e : tg = tag := by cases tg; cases tag; simp at he ⊢; exact he
    subst e
    rw [h.1, decide_eq_true h.2, decide_eq_true rfl]; rfl
  · rw [decide_eq_false he, ← h.2, decide_eq_false he, Bool.and_false]

set_option maxRecDepth 100000 in
set_option maxHeartbeats 4000000 in
theorem law_TokenTag (s : ByteArray) (lane id epoch : Int) (a : Option Addr) (len cap : Nat) (L : List Cv) (tag tg : ByteArray) (w : World) (hK : Ks w) (_w0 : s.size ≤ maxLen) (h : Cvs w a len cap L) (_w2 : tg.size ≤ maxLen) :
    Calls Tryd.prog 7 #[.string s, .agg #[.int .i64 lane, .int .i64 id, .int .i64 epoch, .slice a len cap, .string tag], .string tg] w fun e w' => e = .returned (.bool true) ∧ Below w.heap.size w w' := by
  have HK := Lib.hid hK
  have H := Lib.hid h
  clear hK h _w0 _w2
  by_cases h500 : 500 < s.size
  · go_enter Tryd.func7, Tryd.ntmps7
    go_wp2_with (first
      | ((with_reducible refine box_row (o := ⟨some 4, _, _, _, _, _⟩) rfl _ _ rfl [.int .i64 lane, .int .i64 id, .int .i64 epoch, .slice a len cap, .string tag] rfl ?_); intro w1 hr1 hb1 hz1; have T1 := Lib.hid hr1; have B1 := Lib.hid hb1; clear hr1 hb1 hz1; obtain ⟨g0, g1, g2, g3, g4⟩ := T1.out.t5)
      | (go_at_call 8; refine (awake8 w1 (HK.out.below B1.out HK.out.pos)).mono ?_; rintro e w9 ⟨rfl, hb9⟩; have B9 := Lib.hid (B1.out.trans (hb9.mono B1.out.size)); clear hb9))
    go_ret
    exact ⟨rfl, B9.out⟩
  have HS := Lib.hid (show s.size ≤ 50000000000000 by omega)
  rcases hfew : few8V L tag with _ | _
  · have FEW := Lib.hid hfew
    clear hfew
    go_enter Tryd.func7, Tryd.ntmps7
    go_wp2_with (first
      | ((with_reducible refine box_row (o := ⟨some 4, _, _, _, _, _⟩) rfl _ _ rfl [.int .i64 lane, .int .i64 id, .int .i64 epoch, .slice a len cap, .string tag] rfl ?_); intro w1 hr1 hb1 hz1; have T1 := Lib.hid hr1; have B1 := Lib.hid hb1; clear hr1 hb1 hz1; obtain ⟨g0, g1, g2, g3, g4⟩ := T1.out.t5)
      | (go_at_call 15; refine (few8_any lane id epoch a len cap L tag w1 (H.out.mono B1.out)).mono ?_; rw [FEW.out]; rintro e w2 ⟨rfl, hb2⟩; have B2 := Lib.hid (B1.out.trans (hb2.mono B1.out.size)); have T2 := Lib.hid (T1.out.below hb2 T1.out.lt); clear hb2 g0 g1 g2 g3 g4; obtain ⟨g0, g1, g2, g3, g4⟩ := T2.out.t5)
      | (go_at_call 8; refine (awake8 w2 (HK.out.below B2.out HK.out.pos)).mono ?_; rintro e w9 ⟨rfl, hb9⟩; have B9 := Lib.hid (B2.out.trans (hb9.mono B2.out.size)); clear hb9))
    go_ret
    exact ⟨rfl, B9.out⟩
  have FEW := Lib.hid hfew
  clear hfew
  by_cases h200 : 200 < tg.size
  · go_enter Tryd.func7, Tryd.ntmps7
    go_wp2_with (first
      | ((with_reducible refine box_row (o := ⟨some 4, _, _, _, _, _⟩) rfl _ _ rfl [.int .i64 lane, .int .i64 id, .int .i64 epoch, .slice a len cap, .string tag] rfl ?_); intro w1 hr1 hb1 hz1; have T1 := Lib.hid hr1; have B1 := Lib.hid hb1; clear hr1 hb1 hz1; obtain ⟨g0, g1, g2, g3, g4⟩ := T1.out.t5)
      | (go_at_call 15; refine (few8_any lane id epoch a len cap L tag w1 (H.out.mono B1.out)).mono ?_; rw [FEW.out]; rintro e w2 ⟨rfl, hb2⟩; have B2 := Lib.hid (B1.out.trans (hb2.mono B1.out.size)); have T2 := Lib.hid (T1.out.below hb2 T1.out.lt); clear hb2 g0 g1 g2 g3 g4; obtain ⟨g0, g1, g2, g3, g4⟩ := T2.out.t5)
      | (go_at_call 8; refine (awake8 w2 (HK.out.below B2.out HK.out.pos)).mono ?_; rintro e w9 ⟨rfl, hb9⟩; have B9 := Lib.hid (B2.out.trans (hb9.mono B2.out.size)); clear hb9))
    go_ret
    exact ⟨rfl, B9.out⟩
  rcases hop : openV s lane id epoch L tag with _ | _
  · have OP := Lib.hid hop
    clear hop
    go_enter Tryd.func7, Tryd.ntmps7
    go_wp2_with (first
      | ((with_reducible refine box_row (o := ⟨some 4, _, _, _, _, _⟩) rfl _ _ rfl [.int .i64 lane, .int .i64 id, .int .i64 epoch, .slice a len cap, .string tag] rfl ?_); intro w1 hr1 hb1 hz1; have T1 := Lib.hid hr1; have B1 := Lib.hid hb1; clear hr1 hb1 hz1; obtain ⟨g0, g1, g2, g3, g4⟩ := T1.out.t5)
      | (go_at_call 15; refine (few8_any lane id epoch a len cap L tag w1 (H.out.mono B1.out)).mono ?_; rw [FEW.out]; rintro e w2 ⟨rfl, hb2⟩; have B2 := Lib.hid (B1.out.trans (hb2.mono B1.out.size)); have T2 := Lib.hid (T1.out.below hb2 T1.out.lt); clear hb2 g0 g1 g2 g3 g4; obtain ⟨g0, g1, g2, g3, g4⟩ := T2.out.t5)
      | (go_at_call 16; refine (tkopen_any s lane id epoch a len cap L tag w2 (HK.out.below B2.out HK.out.pos) HS.out (H.out.mono B2.out)).mono ?_; rw [OP.out]; rintro e w3 ⟨rfl, hb3⟩; have B3 := Lib.hid (B2.out.trans (hb3.mono B2.out.size)); have T3 := Lib.hid (T2.out.below hb3 T2.out.lt); clear hb3 g0 g1 g2 g3 g4; obtain ⟨g0, g1, g2, g3, g4⟩ := T3.out.t5)
      | (go_at_call 8; refine (awake8 w3 (HK.out.below B3.out HK.out.pos)).mono ?_; rintro e w9 ⟨rfl, hb9⟩; have B9 := Lib.hid (B3.out.trans (hb9.mono B3.out.size)); clear hb9))
    go_ret
    exact ⟨rfl, B9.out⟩
  have hO2 := tk_tag tg hop
  have OP := Lib.hid hop
  have TZ := Lib.hid tok_zero
  have TS := Lib.hid tok_size
  clear hop
  rcases hx : (tg.toList == tag.toList) with _ | _
  all_goals
    rw [hx] at hO2
    have HO2 := Lib.hid hO2
    have HX := Lib.hid hx
    clear hO2 hx
    go_enter Tryd.func7, Tryd.ntmps7
    go_wp2_with (first
      | ((with_reducible refine box_row (o := ⟨some 4, _, _, _, _, _⟩) rfl _ _ rfl [.int .i64 lane, .int .i64 id, .int .i64 epoch, .slice a len cap, .string tag] rfl ?_); intro w1 hr1 hb1 hz1; have T1 := Lib.hid hr1; have B1 := Lib.hid hb1; clear hr1 hb1 hz1; obtain ⟨g0, g1, g2, g3, g4⟩ := T1.out.t5)
      | (go_at_call 15; refine (few8_any lane id epoch a len cap L tag w1 (H.out.mono B1.out)).mono ?_; rw [FEW.out]; rintro e w2 ⟨rfl, hb2⟩; have B2 := Lib.hid (B1.out.trans (hb2.mono B1.out.size)); have T2 := Lib.hid (T1.out.below hb2 T1.out.lt); clear hb2 g0 g1 g2 g3 g4; obtain ⟨g0, g1, g2, g3, g4⟩ := T2.out.t5)
      | (go_at_call 16; refine (tkopen_any s lane id epoch a len cap L tag w2 (HK.out.below B2.out HK.out.pos) HS.out (H.out.mono B2.out)).mono ?_; rw [OP.out]; rintro e w3 ⟨rfl, hb3⟩; have B3 := Lib.hid (B2.out.trans (hb3.mono B2.out.size)); have T3 := Lib.hid (T2.out.below hb3 T2.out.lt); clear hb3 g0 g1 g2 g3 g4; obtain ⟨g0, g1, g2, g3, g4⟩ := T3.out.t5)
      | ((with_reducible refine alloc_row (o := ⟨some 7, _, _, _, _, _⟩) rfl _ rfl _ TZ.out ?_); intro w4 hr4 hb4 hz4; have U4 := Lib.hid hr4; have T4 := Lib.hid (T3.out.below hb4 T3.out.lt); have B4 := Lib.hid (B3.out.trans (hb4.mono B3.out.size)); have NE := Lib.hid (Nat.ne_of_lt T3.out.lt); clear hr4 hb4 hz4)
      | ((with_reducible refine store_row (o := ⟨none, _, _, _, _, _⟩) rfl _ (.tmp 7) _ rfl w3.heap.size [.int .i64 lane, .int .i64 id, .int .i64 epoch, .slice a len cap, .string tag] ?_ ?_ 25 _ U4.out ?_ ?_ ?_ ?_); (focus go_simp); (focus go_simp); (focus (exact TS.out)); (focus rfl); (focus (exact tok_one _ _ _ _ _ _ _)); intro w5 hr5 hu5; have U5 := Lib.hid hr5; have T5 := Lib.hid (T4.out.upd hu5 NE.out); have B5 := Lib.hid (B4.out.trans (hu5.below B3.out.size)); clear hr5 hu5 g0 g1 g2 g3 g4; have z4 := U5.out.frozen 4; obtain ⟨g0, g1, g2, g3, g4⟩ := U5.out.t5))
    obtain ⟨w6, hw6⟩ : ∃ w6, w6 = w5.setCell ⟨w3.heap.size, 4, none⟩ (.string tg) := ⟨_, rfl⟩
    rw [← hw6]
    have hu6 : Upd w5 w6 w3.heap.size := by rw [hw6]; exact Upd.setCell _ _ _ _
    have U6 := Lib.hid (show Row w6 w3.heap.size 25 [.int .i64 lane, .int .i64 id, .int .i64 epoch, .slice a len cap, .string tg] by rw [hw6]; exact U5.out.setV 4 _)
    have T6 := Lib.hid (T5.out.upd hu6 NE.out)
    have B6 := Lib.hid (B5.out.trans (hu6.below B3.out.size))
    clear hw6 hu6 g0 g1 g2 g3 g4 z4
    refine region_w (C := fun v => Below w6.heap.size w6 v) (by kernel_rfl) (by kernel_rfl) (Below.refl _ _).drew ?_
    have hx := HX.out
    repeat (first
      | (refine w_read (wanted_free rfl) ?_ ?_ ?_; rotate_left; (focus (intro v hv; obtain ⟨f0, f1, f2, f3, f4⟩ := (U6.out.below hv U6.out.lt).t5; obtain ⟨g0, g1, g2, g3, g4⟩ := (T6.out.below hv T6.out.lt).t5; go_simp; rfl)); go_simp)
      | (refine w_skip ?_ ?_; (focus (go_simp; first | done | (intro h; cases h) | simp)); go_simp)
      | (refine w_read ?_ ?_ ?_ ?_; (focus (go_simp; done)); rotate_left; (focus (intro v hv; go_simp; rfl)); go_simp)
      | (refine w_call ?_ 16 ?_ ?_ ?_ ?_ ?_; (focus (go_simp; done)); rotate_left; (focus (intro v; go_simp; rfl)); rotate_left; (focus (intro v hv; exact q_grow (tkopen_any s lane id epoch a len cap L tg v (HK.out.below (B6.out.trans (hv.mono B6.out.size)) HK.out.pos) HS.out ((H.out.mono B6.out).mono hv)) (by rw [HO2.out]) hv)); go_simp)
      | (refine w_call ?_ 8 ?_ ?_ ?_ ?_ ?_; (focus (go_simp; done)); rotate_left; (focus (intro v; go_simp; rfl)); rotate_left; (focus (intro v hv; exact q_grow (awake8 v (HK.out.below (B6.out.trans (hv.mono B6.out.size)) HK.out.pos)) (by rfl) hv)); go_simp))
    refine w_nil ?_
    intro w7 hb7
    go_wp2_with fail
    go_ret
    exact ⟨rfl, B6.out.trans (hb7.mono B6.out.size)⟩

end Go.Proofs.YtlclkikbocbenaaDoor.W
