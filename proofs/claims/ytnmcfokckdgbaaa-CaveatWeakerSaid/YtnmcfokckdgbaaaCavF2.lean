/- CONTRACTS of layer 6 (caveat): the reference's All. -/
import Derived.Test.YtnmcfokckdgbaaaCavF
import Derived.Test.YtnmcfokckdgbaaaQ2
namespace Go.Proofs.Ytnmcfokckdgbaaa.W
open Go.ChangeShapes Go.WideShapes Go.ChangeAt Go.RowKit

set_option maxRecDepth 100000 in
set_option maxHeartbeats 4000000 in
theorem uall_any (a : Option Addr) (len cap : Nat) (L : List Cv) (d : Dd) (w : World) (h : Cvs w a len cap L) (hd : d.fit) :
    Calls Try.prog 31 #[.slice a len cap, d.val] w fun e w' => e = .returned (.bool (allV L d)) ∧ Below w.heap.size w w' := by
  obtain ⟨r, hr⟩ : ∃ r, allV L d = r := ⟨_, rfl⟩
  rw [hr]
  have HR := Lib.hid hr
  have HL := Lib.hid h.hlen
  have hm := h.hmax
  have hle := h.hle
  have H := Lib.hid h
  have HD := Lib.hid hd
  obtain ⟨act, time, client, bytes, space, snap⟩ := d
  clear hr hd
  by_cases h0 : len = 0
  · subst h0
    clear h
    go_enter Try.func31, Try.ntmps31
    go_wp2_with (with_reducible refine box_row (o := ⟨some 3, _, _, _, _, _⟩) rfl _ _ rfl [.int .i64 act, .int .i64 time, .int .i64 client, .int .i64 bytes, .string space, .string snap] rfl ?_; intro w1 hr1 hb1 hz1; have HR1 := Lib.hid hr1; clear hr1 hz1; have HB1 := Lib.hid hb1; clear hb1)
    go_loop [5] (fun i => i = .int .i64 0) (fun _ => 0)
    case atStart => rfl
    case round =>
      subst hrel
      go_wp2_with fail
      go_ret
      exact ⟨by rw [← HR.out, List.eq_nil_of_length_eq_zero HL.out]; rfl, HB1.out⟩
  · obtain ⟨b, off, rfl, hblt, hcell⟩ := h.at h0
    have HC := Lib.hid hcell
    clear h hcell
    go_enter Try.func31, Try.ntmps31
    go_wp2_with (with_reducible refine box_row (o := ⟨some 3, _, _, _, _, _⟩) rfl _ _ rfl [.int .i64 act, .int .i64 time, .int .i64 client, .int .i64 bytes, .string space, .string snap] rfl ?_; intro w1 hr1 hb1 hz1; have HR1 := Lib.hid hr1; clear hr1 hz1; have HB1 := Lib.hid hb1; clear hb1)
    go_loopw [5] (fun i wr => ∃ (k : Nat), k ≤ len ∧ i = .int .i64 k ∧ Hid ((L.take k).all (fun c => holdsV c ⟨act, time, client, bytes, space, snap⟩) = true) ∧ Below w1.heap.size w1 wr) (fun i _ => len - (intOf i).toNat)
    case atStart => exact ⟨0, Nat.zero_le _, rfl, Lib.hid rfl, Below.refl _ _⟩
    case round =>
      obtain ⟨k, hk, rfl, HA, hbr⟩ := hrel
      have hbw := HB1.out.trans (hbr.mono HB1.out.size)
      have HBR := Lib.hid hbr
      by_cases hlt : k < len
      · obtain ⟨x0, x1, x2⟩ := HC.out k hlt
        have hf := H.out.fitAt hlt
        have hst := all_step (p := fun c => holdsV c ⟨act, time, client, bytes, space, snap⟩) (show k < L.length by rw [HL.out]; exact hlt)
        rcases hce : L.getD k default with ⟨kind, num, name⟩
        rw [hce] at x0 x1 x2 hf hst
        simp only at x0 x1 x2
        have HF := Lib.hid hf
        rw [← hbw.cell (p := ⟨b, off + k * 3, none⟩) hblt] at x0
        rw [← hbw.cell (p := ⟨b, off + k * 3 + 1, none⟩) hblt] at x1
        rw [← hbw.cell (p := ⟨b, off + k * 3 + 2, none⟩) hblt] at x2
        have HRD := Lib.hid (HR1.out.below hbr HR1.out.lt)
        have HBL := Lib.hid (Nat.lt_of_lt_of_le hblt hbw.size)
        have X0 := Lib.hid x0
        have X1 := Lib.hid x1
        have X2 := Lib.hid x2
        clear hbr hbw hf x0 x1 x2
        rcases hb : holdsV ⟨kind, num, name⟩ ⟨act, time, client, bytes, space, snap⟩ with _ | _
        · have hbad : L.all (fun c => holdsV c ⟨act, time, client, bytes, space, snap⟩) = false := all_bad (show k < L.length by rw [HL.out]; exact hlt) (by rw [hce]; exact hb)
          have HF' := Lib.hid (show r = false from by rw [← HR.out]; exact hbad)
          have HB := Lib.hid (show Value.bool (holdsV ⟨kind, num, name⟩ ⟨act, time, client, bytes, space, snap⟩) = .bool false by rw [hb])
          clear hbad hce hst hb
          go_wp2_with fail
          refine region_w (C := fun v => Below wr.heap.size wr v) (by kernel_rfl) (by kernel_rfl) (Below.refl _ _).drew ?_
          repeat (first
            | (refine w_read (wanted_free rfl) ?_ ?_ ?_; rotate_left; (focus (intro v hv; have y0 := (hv.cell (p := ⟨b, off + k * 3, none⟩) HBL.out).trans X0.out; have y1 := (hv.cell (p := ⟨b, off + k * 3 + 1, none⟩) HBL.out).trans X1.out; have y2 := (hv.cell (p := ⟨b, off + k * 3 + 2, none⟩) HBL.out).trans X2.out; have d0 := (HRD.out.below hv HRD.out.lt).c0; have d1 := (HRD.out.below hv HRD.out.lt).c1; have d2 := (HRD.out.below hv HRD.out.lt).c2; have d3 := (HRD.out.below hv HRD.out.lt).c3; have d4 := (HRD.out.below hv HRD.out.lt).c4; have d5 := (HRD.out.below hv HRD.out.lt).c5; go_simp; rfl)); go_simp)
            | (refine w_skip ?_ ?_; (focus (go_simp; first | done | (intro h; cases h) | simp)); go_simp)
            | (refine w_read ?_ ?_ ?_ ?_; (focus (go_simp; done)); rotate_left; (focus (intro v hv; have y0 := (hv.cell (p := ⟨b, off + k * 3, none⟩) HBL.out).trans X0.out; have y1 := (hv.cell (p := ⟨b, off + k * 3 + 1, none⟩) HBL.out).trans X1.out; have y2 := (hv.cell (p := ⟨b, off + k * 3 + 2, none⟩) HBL.out).trans X2.out; have d0 := (HRD.out.below hv HRD.out.lt).c0; have d1 := (HRD.out.below hv HRD.out.lt).c1; have d2 := (HRD.out.below hv HRD.out.lt).c2; have d3 := (HRD.out.below hv HRD.out.lt).c3; have d4 := (HRD.out.below hv HRD.out.lt).c4; have d5 := (HRD.out.below hv HRD.out.lt).c5; go_simp; rfl)); go_simp)
            | (refine w_call ?_ 29 ?_ ?_ ?_ ?_ ?_; (focus (go_simp; done)); rotate_left; (focus (intro v; go_simp; rfl)); rotate_left; (focus (intro v hv; exact q_grow (uholds ⟨kind, num, name⟩ ⟨act, time, client, bytes, space, snap⟩ v HF.out HD.out) (by exact HB.out) hv)); go_simp))
          refine w_nil ?_
          intro w3 hb3
          have HB3 := Lib.hid (HBR.out.trans (hb3.mono HBR.out.size))
          clear hb3
          go_wp2_with fail
          go_ret
          exact ⟨by rw [HF'.out]; rfl, HB1.out.trans (HB3.out.mono HB1.out.size)⟩
        · rw [HA.out, hb] at hst
          have HA' := Lib.hid hst
          have HB := Lib.hid (show Value.bool (holdsV ⟨kind, num, name⟩ ⟨act, time, client, bytes, space, snap⟩) = .bool true by rw [hb])
          clear hce hst hb HA
          go_wp2_with fail
          refine region_w (C := fun v => Below wr.heap.size wr v) (by kernel_rfl) (by kernel_rfl) (Below.refl _ _).drew ?_
          repeat (first
            | (refine w_read (wanted_free rfl) ?_ ?_ ?_; rotate_left; (focus (intro v hv; have y0 := (hv.cell (p := ⟨b, off + k * 3, none⟩) HBL.out).trans X0.out; have y1 := (hv.cell (p := ⟨b, off + k * 3 + 1, none⟩) HBL.out).trans X1.out; have y2 := (hv.cell (p := ⟨b, off + k * 3 + 2, none⟩) HBL.out).trans X2.out; have d0 := (HRD.out.below hv HRD.out.lt).c0; have d1 := (HRD.out.below hv HRD.out.lt).c1; have d2 := (HRD.out.below hv HRD.out.lt).c2; have d3 := (HRD.out.below hv HRD.out.lt).c3; have d4 := (HRD.out.below hv HRD.out.lt).c4; have d5 := (HRD.out.below hv HRD.out.lt).c5; go_simp; rfl)); go_simp)
            | (refine w_skip ?_ ?_; (focus (go_simp; first | done | (intro h; cases h) | simp)); go_simp)
            | (refine w_read ?_ ?_ ?_ ?_; (focus (go_simp; done)); rotate_left; (focus (intro v hv; have y0 := (hv.cell (p := ⟨b, off + k * 3, none⟩) HBL.out).trans X0.out; have y1 := (hv.cell (p := ⟨b, off + k * 3 + 1, none⟩) HBL.out).trans X1.out; have y2 := (hv.cell (p := ⟨b, off + k * 3 + 2, none⟩) HBL.out).trans X2.out; have d0 := (HRD.out.below hv HRD.out.lt).c0; have d1 := (HRD.out.below hv HRD.out.lt).c1; have d2 := (HRD.out.below hv HRD.out.lt).c2; have d3 := (HRD.out.below hv HRD.out.lt).c3; have d4 := (HRD.out.below hv HRD.out.lt).c4; have d5 := (HRD.out.below hv HRD.out.lt).c5; go_simp; rfl)); go_simp)
            | (refine w_call ?_ 29 ?_ ?_ ?_ ?_ ?_; (focus (go_simp; done)); rotate_left; (focus (intro v; go_simp; rfl)); rotate_left; (focus (intro v hv; exact q_grow (uholds ⟨kind, num, name⟩ ⟨act, time, client, bytes, space, snap⟩ v HF.out HD.out) (by exact HB.out) hv)); go_simp))
          refine w_nil ?_
          intro w3 hb3
          have HB3 := Lib.hid (HBR.out.trans (hb3.mono HBR.out.size))
          clear hb3
          go_wp2_with fail
          go_roundw
          case rel => exact ⟨k + 1, by omega, by go_num, HA', HB3.out⟩
          case measure => simp [intOf]; omega
      · have HF := Lib.hid (show r = true from by
          rw [← HR.out]
          exact all_end HL.out (by have := HA.out; rwa [show k = len by omega] at this))
        clear hbr hbw
        go_wp2_with fail
        go_ret
        exact ⟨by rw [HF.out]; rfl, HB1.out.trans (HBR.out.mono HB1.out.size)⟩

end Go.Proofs.Ytnmcfokckdgbaaa.W
