/- LAYER 9 (disk): the laws' own 'same', out of what a disk of the program promises. -/
import Derived.Test.YtlohfalpcppcjaaDoD
set_option linter.unusedSimpArgs false
set_option linter.unusedVariables false
namespace Go.Proofs.Ytlohfalpcppcjaa.W
open Go Go.ChangeShapes Go.WideShapes Go.ChangeAt Go.RowKit
variable {PD : World → Nat → (Nat → Prop) → DSt → Prop}

theorem DSt.of_slot {d : DSt} {k : Nat} (hk : k < d.B.length) : d.clE (k : Int) = 0 ∧ d.rd (k : Int) = d.B.getD k [] ∧ d.size (k : Int) = ((d.B.getD k []).length : Int) := by
  have hb : slotV d.B (k : Int) = true := by unfold slotV; simp [hk]
  unfold DSt.clE DSt.rd DSt.size DSt.at
  rw [if_neg (by rw [hb]; decide), if_neg (by rw [hb]; decide), if_neg (by rw [hb]; decide)]
  simp
set_option maxRecDepth 100000 in
set_option maxHeartbeats 4000000 in
theorem same_two (hC : DkC PD) (p q : Nat) (S T : Nat → Prop) (d : DSt) (w : World) (h : Two PD w p q S T d) :
    Calls Try.prog 11 #[.pointer (some ⟨p, 0, none⟩), .pointer (some ⟨q, 0, none⟩)] w fun e w' => e = .returned (.bool true) ∧ Below w.heap.size w w' := by
  have HC := Lib.hid hC
  have H := Lib.hid h
  obtain ⟨gb, gs, vs, hx, -⟩ := h.r
  have X := Lib.hid hx
  have hq0 := hx.p0
  have hn16 := hx.n16
  obtain ⟨n, hnn⟩ : ∃ n, d.B.length = n := ⟨_, rfl⟩
  obtain ⟨x0, x1, x2⟩ := hx.rp.t3
  rw [hnn] at x0 hn16
  have HNN := Lib.hid hnn
  have X0 := Lib.hid x0
  have X2 := Lib.hid x2
  clear h hx hC hnn x1
  go_enter Try.func11, Try.ntmps11
  go_wp2_with fail
  clear x0 x2
  go_loopw [13] (fun i wr => ∃ k : Nat, i = .int .i64 (k : Int) ∧ k ≤ n ∧ Hid (Below w.heap.size w wr)) (fun i _ => n - (intOf i).toNat)
  case atStart => exact ⟨0, rfl, Nat.zero_le _, Lib.hid (Below.refl _ _)⟩
  case round =>
    obtain ⟨k, rfl, hk, HB⟩ := hrel
    by_cases hlt : k < n
    · have hk' : k < d.B.length := by rw [HNN.out]; exact hlt
      obtain ⟨hce, hrd, hsi⟩ := DSt.of_slot hk'
      obtain ⟨va, vn, vc, hv, xb, hrk⟩ := X.out.at k hk'
      obtain ⟨L, hL⟩ : ∃ L, d.B.getD k [] = L := ⟨_, rfl⟩
      rw [hL] at hrd hsi hrk
      have hvn := hrk.hlen
      rw [hvn] at hsi
      have hT := H.out.below HC.out HB.out
      have HT := Lib.hid hT
      have HR := Lib.hid (HC.out.read p S d (k : Int) wr hT.l)
      rw [hce, hrd] at HR
      have HSI := Lib.hid hsi
      have XB := Lib.hid xb
      have RK := Lib.hid hrk
      have HVN := Lib.hid hvn
      clear hv xb hrk hce hrd hsi hL hT hvn hk'
      go_wp2_with (go_at_call 17; refine HR.out.mono ?_; rintro e w2 ⟨v7, rfl, hf7, hb2⟩; obtain ⟨a7, c7, rfl, hr7⟩ := hf7.form' vn HVN.out; have R7 := Lib.hid hr7; have B2 := Lib.hid (HB.out.trans (hb2.mono HB.out.size)); have T2 := Lib.hid (HT.out.below HC.out hb2); clear hf7 hr7 hb2)
      have BD := Lib.hid (B2.out.drew)
      have TD := Lib.hid (T2.out.below HC.out (Below.refl _ _).drew)
      have R7D := Lib.hid (R7.out.mono (Below.refl _ _).drew)
      have RKD := Lib.hid (RK.out.mono B2.out.drew)
      refine region_h (fun v => Below w.heap.size w v) (by kernel_rfl) (by kernel_rfl) BD.out ?_
      obtain ⟨wc, hwc⟩ : ∃ wc, w2.drew = wc := ⟨_, rfl⟩
      rw [hwc] at BD TD R7D RKD ⊢
      clear hwc
      (refine h_read 0 rfl (by kernel_rfl) (by kernel_rfl) (h_free rfl) ?_ ?_ ?_; rotate_left; (focus (intro v hv; go_simp; rfl)); go_simp)
      (refine h_read 1 rfl (by kernel_rfl) (by kernel_rfl) (h_free rfl) ?_ ?_ ?_; rotate_left; (focus (intro v hv; go_simp; rfl)); go_simp)
      (refine h_read 2 rfl (by kernel_rfl) (by kernel_rfl) (h_free rfl) ?_ ?_ ?_; rotate_left; (focus (intro v hv; go_simp; rfl)); go_simp)
      (refine h_read 3 rfl (by kernel_rfl) (by kernel_rfl) ?_ ?_ ?_ ?_; (focus (go_simp; done)); rotate_left; (focus (intro v hv; go_simp; rfl)); go_simp)
      (refine h_read 4 rfl (by kernel_rfl) (by kernel_rfl) ?_ ?_ ?_ ?_; (focus (go_simp; done)); rotate_left; (focus (intro v hv; go_simp; rfl)); go_simp)
      (refine h_read 5 rfl (by kernel_rfl) (by kernel_rfl) ?_ ?_ ?_ ?_; (focus (go_simp; done)); rotate_left; (focus (intro v hv; go_simp; rfl)); go_simp)
      (refine h_read 6 rfl (by kernel_rfl) (by kernel_rfl) ?_ ?_ ?_ ?_; (focus (go_simp; done)); rotate_left; (focus (intro v hv; go_simp; rfl)); go_simp)
      (refine h_read 7 rfl (by kernel_rfl) (by kernel_rfl) ?_ ?_ ?_ ?_; (focus (go_simp; done)); rotate_left; (focus (intro v hv; have x0 := (hv.cell (p := ⟨q, 0, none⟩) X.out.rp.lt).trans X0.out; have x2 := (hv.cell (p := ⟨q, 2, none⟩) X.out.rp.lt).trans X2.out; have xb := (hv.cell (p := ⟨gb, k, none⟩) X.out.rb.lt).trans XB.out; go_simp; rfl)); go_simp)
      (refine h_read 8 rfl (by kernel_rfl) (by kernel_rfl) ?_ ?_ ?_ ?_; (focus (go_simp; done)); rotate_left; (focus (intro v hv; go_simp; rfl)); go_simp)
      (refine h_read 9 rfl (by kernel_rfl) (by kernel_rfl) ?_ ?_ ?_ ?_; (focus (go_simp; done)); rotate_left; (focus (intro v hv; go_simp; rfl)); go_simp)
      (refine h_read 10 rfl (by kernel_rfl) (by kernel_rfl) ?_ ?_ ?_ ?_; (focus (go_simp; done)); rotate_left; (focus (intro v hv; have x0 := (hv.cell (p := ⟨q, 0, none⟩) X.out.rp.lt).trans X0.out; have x2 := (hv.cell (p := ⟨q, 2, none⟩) X.out.rp.lt).trans X2.out; have xb := (hv.cell (p := ⟨gb, k, none⟩) X.out.rb.lt).trans XB.out; go_simp; rfl)); go_simp)
      (refine h_call 11 rfl (by kernel_rfl) ?_ 19 ?_ ?_ ?_; (focus (go_simp; done)); rotate_left; (focus (go_simp; rfl)))
      refine (sequal a7 va vn vn c7 vc L L wc R7D.out RKD.out).mono ?_
      rintro e w4 ⟨rfl, hq⟩
      have Q4 := Lib.hid (hq.below wc.heap.size)
      clear hq
      refine ⟨_, rfl, BD.out.trans (Q4.out.mono BD.out.size), ?_⟩
      have T4 := Lib.hid (TD.out.below HC.out Q4.out)
      go_simp
      (refine h_read 12 rfl (by kernel_rfl) (by kernel_rfl) ?_ ?_ ?_ ?_; (focus (go_simp; done)); rotate_left; (focus (intro v hv; go_simp; rfl)); go_simp)
      (refine h_read 13 rfl (by kernel_rfl) (by kernel_rfl) (h_free rfl) ?_ ?_ ?_; rotate_left; (focus (intro v hv; go_simp; rfl)); go_simp)
      (refine h_read 14 rfl (by kernel_rfl) (by kernel_rfl) (h_free rfl) ?_ ?_ ?_; rotate_left; (focus (intro v hv; go_simp; rfl)); go_simp)
      (refine h_read 15 rfl (by kernel_rfl) (by kernel_rfl) ?_ ?_ ?_ ?_; (focus (go_simp; done)); rotate_left; (focus (intro v hv; go_simp; rfl)); go_simp)
      (refine h_read 16 rfl (by kernel_rfl) (by kernel_rfl) ?_ ?_ ?_ ?_; (focus (go_simp; done)); rotate_left; (focus (intro v hv; go_simp; rfl)); go_simp)
      (refine h_read 18 rfl (by kernel_rfl) (by kernel_rfl) ?_ ?_ ?_ ?_; (focus (go_simp; done)); rotate_left; (focus (intro v hv; go_simp; rfl)); go_simp)
      (refine h_read 19 rfl (by kernel_rfl) (by kernel_rfl) ?_ ?_ ?_ ?_; (focus (go_simp; done)); rotate_left; (focus (intro v hv; go_simp; rfl)); go_simp)
      (refine h_read 20 rfl (by kernel_rfl) (by kernel_rfl) ?_ ?_ ?_ ?_; (focus (go_simp; done)); rotate_left; (focus (intro v hv; go_simp; rfl)); go_simp)
      (refine h_read 21 rfl (by kernel_rfl) (by kernel_rfl) ?_ ?_ ?_ ?_; (focus (go_simp; done)); rotate_left; (focus (intro v hv; have x0 := (hv.cell (p := ⟨q, 0, none⟩) X.out.rp.lt).trans X0.out; have x2 := (hv.cell (p := ⟨q, 2, none⟩) X.out.rp.lt).trans X2.out; have xb := (hv.cell (p := ⟨gb, k, none⟩) X.out.rb.lt).trans XB.out; go_simp; rfl)); go_simp)
      (refine h_read 22 rfl (by kernel_rfl) (by kernel_rfl) ?_ ?_ ?_ ?_; (focus (go_simp; done)); rotate_left; (focus (intro v hv; go_simp; rfl)); go_simp)
      (refine h_read 23 rfl (by kernel_rfl) (by kernel_rfl) ?_ ?_ ?_ ?_; (focus (go_simp; done)); rotate_left; (focus (intro v hv; go_simp; rfl)); go_simp)
      (refine h_read 24 rfl (by kernel_rfl) (by kernel_rfl) ?_ ?_ ?_ ?_; (focus (go_simp; done)); rotate_left; (focus (intro v hv; have x0 := (hv.cell (p := ⟨q, 0, none⟩) X.out.rp.lt).trans X0.out; have x2 := (hv.cell (p := ⟨q, 2, none⟩) X.out.rp.lt).trans X2.out; have xb := (hv.cell (p := ⟨gb, k, none⟩) X.out.rb.lt).trans XB.out; go_simp; rfl)); go_simp)
      (refine h_read 25 rfl (by kernel_rfl) (by kernel_rfl) ?_ ?_ ?_ ?_; (focus (go_simp; done)); rotate_left; (focus (intro v hv; go_simp; rfl)); go_simp)
      (refine h_call 17 rfl (by kernel_rfl) ?_ 23 ?_ ?_ ?_; (focus (go_simp; done)); rotate_left; (focus (go_simp; rfl)))
      refine (HC.out.size p S d (k : Int) w4 T4.out.l).mono ?_
      rw [HSI.out]
      rintro e w5 ⟨rfl, hb5⟩
      have B5 := Lib.hid ((BD.out.trans (Q4.out.mono BD.out.size)).trans (hb5.mono (Nat.le_trans BD.out.size Q4.out.size)))
      have T5 := Lib.hid (T4.out.below HC.out hb5)
      clear hb5
      refine ⟨_, rfl, B5.out, ?_⟩
      go_simp
      (refine h_read 26 rfl (by kernel_rfl) (by kernel_rfl) ?_ ?_ ?_ ?_; (focus (go_simp; done)); rotate_left; (focus (intro v hv; go_simp; rfl)); go_simp)
      (refine h_read 27 rfl (by kernel_rfl) (by kernel_rfl) (h_free rfl) ?_ ?_ ?_; rotate_left; (focus (intro v hv; go_simp; rfl)); go_simp)
      refine h_done (by kernel_rfl) ?_
      go_wp2_with fail
      go_roundw
      case rel => exact ⟨k + 1, by go_num, by omega, B5⟩
      case measure => simp [intOf]; omega
    · obtain rfl : n = k := by omega
      go_wp2_with fail
      have BD := Lib.hid (HB.out.drew)
      have TD := Lib.hid (H.out.below HC.out HB.out.drew)
      refine region_h (fun v => Below w.heap.size w v) (by kernel_rfl) (by kernel_rfl) BD.out ?_
      obtain ⟨wc, hwc⟩ : ∃ wc, wr.drew = wc := ⟨_, rfl⟩
      rw [hwc] at BD TD ⊢
      clear hwc
      (refine h_read 0 rfl (by kernel_rfl) (by kernel_rfl) (h_free rfl) ?_ ?_ ?_; rotate_left; (focus (intro v hv; go_simp; rfl)); go_simp)
      (refine h_read 2 rfl (by kernel_rfl) (by kernel_rfl) (h_free rfl) ?_ ?_ ?_; rotate_left; (focus (intro v hv; go_simp; rfl)); go_simp)
      (refine h_call 1 rfl (by kernel_rfl) (h_free rfl) 15 ?_ ?_ ?_; rotate_left; (focus (go_simp; rfl)))
      refine (HC.out.loose p S d wc TD.out.l).mono ?_
      rintro e w5 ⟨rfl, hb5⟩
      have B5 := Lib.hid (BD.out.trans (hb5.mono BD.out.size))
      have T5 := Lib.hid (TD.out.below HC.out hb5)
      clear hb5
      refine ⟨_, rfl, B5.out, ?_⟩
      go_simp
      (refine h_call 3 rfl (by kernel_rfl) (h_free rfl) 33 ?_ ?_ ?_; rotate_left; (focus (go_simp; rfl)))
      refine (xp_loose q T d w5 T5.out.r).mono ?_
      rintro e w6 ⟨rfl, hb6⟩
      have B6 := Lib.hid (B5.out.trans (hb6.mono B5.out.size))
      have T6 := Lib.hid (T5.out.below HC.out hb6)
      clear hb6
      refine ⟨_, rfl, B6.out, ?_⟩
      go_simp
      (refine h_read 4 rfl (by kernel_rfl) (by kernel_rfl) (h_free rfl) ?_ ?_ ?_; rotate_left; (focus (intro v hv; go_simp; rfl)); go_simp)
      (refine h_read 5 rfl (by kernel_rfl) (by kernel_rfl) (h_free rfl) ?_ ?_ ?_; rotate_left; (focus (intro v hv; go_simp; rfl)); go_simp)
      (refine h_read 6 rfl (by kernel_rfl) (by kernel_rfl) ?_ ?_ ?_ ?_; (focus (go_simp; done)); rotate_left; (focus (intro v hv; go_simp; rfl)); go_simp)
      (refine h_read 8 rfl (by kernel_rfl) (by kernel_rfl) ?_ ?_ ?_ ?_; (focus (go_simp; done)); rotate_left; (focus (intro v hv; go_simp; rfl)); go_simp)
      (refine h_read 9 rfl (by kernel_rfl) (by kernel_rfl) ?_ ?_ ?_ ?_; (focus (go_simp; done)); rotate_left; (focus (intro v hv; go_simp; rfl)); go_simp)
      (refine h_read 10 rfl (by kernel_rfl) (by kernel_rfl) ?_ ?_ ?_ ?_; (focus (go_simp; done)); rotate_left; (focus (intro v hv; go_simp; rfl)); go_simp)
      (refine h_read 11 rfl (by kernel_rfl) (by kernel_rfl) ?_ ?_ ?_ ?_; (focus (go_simp; done)); rotate_left; (focus (intro v hv; have x0 := (hv.cell (p := ⟨q, 0, none⟩) X.out.rp.lt).trans X0.out; have x2 := (hv.cell (p := ⟨q, 2, none⟩) X.out.rp.lt).trans X2.out; go_simp; rfl)); go_simp)
      (refine h_call 7 rfl (by kernel_rfl) ?_ 24 ?_ ?_ ?_; (focus (go_simp; done)); rotate_left; (focus (go_simp; rfl)))
      refine (HC.out.room p S d w6 T6.out.l).mono ?_
      rintro e w7 ⟨rfl, hb7⟩
      have B7 := Lib.hid (B6.out.trans (hb7.mono B6.out.size))
      have T7 := Lib.hid (T6.out.below HC.out hb7)
      clear hb7
      refine ⟨_, rfl, B7.out, ?_⟩
      go_simp
      (refine h_read 12 rfl (by kernel_rfl) (by kernel_rfl) ?_ ?_ ?_ ?_; (focus (go_simp; done)); rotate_left; (focus (intro v hv; go_simp; rfl)); go_simp)
      (refine h_read 13 rfl (by kernel_rfl) (by kernel_rfl) (h_free rfl) ?_ ?_ ?_; rotate_left; (focus (intro v hv; go_simp; rfl)); go_simp)
      (refine h_read 14 rfl (by kernel_rfl) (by kernel_rfl) (h_free rfl) ?_ ?_ ?_; rotate_left; (focus (intro v hv; go_simp; rfl)); go_simp)
      (refine h_read 15 rfl (by kernel_rfl) (by kernel_rfl) ?_ ?_ ?_ ?_; (focus (go_simp; done)); rotate_left; (focus (intro v hv; go_simp; rfl)); go_simp)
      (refine h_read 17 rfl (by kernel_rfl) (by kernel_rfl) ?_ ?_ ?_ ?_; (focus (go_simp; done)); rotate_left; (focus (intro v hv; go_simp; rfl)); go_simp)
      (refine h_read 18 rfl (by kernel_rfl) (by kernel_rfl) ?_ ?_ ?_ ?_; (focus (go_simp; done)); rotate_left; (focus (intro v hv; go_simp; rfl)); go_simp)
      (refine h_read 19 rfl (by kernel_rfl) (by kernel_rfl) ?_ ?_ ?_ ?_; (focus (go_simp; done)); rotate_left; (focus (intro v hv; go_simp; rfl)); go_simp)
      (refine h_read 20 rfl (by kernel_rfl) (by kernel_rfl) ?_ ?_ ?_ ?_; (focus (go_simp; done)); rotate_left; (focus (intro v hv; have x0 := (hv.cell (p := ⟨q, 0, none⟩) X.out.rp.lt).trans X0.out; have x2 := (hv.cell (p := ⟨q, 2, none⟩) X.out.rp.lt).trans X2.out; go_simp; rfl)); go_simp)
      (refine h_read 21 rfl (by kernel_rfl) (by kernel_rfl) ?_ ?_ ?_ ?_; (focus (go_simp; done)); rotate_left; (focus (intro v hv; go_simp; rfl)); go_simp)
      (refine h_call 16 rfl (by kernel_rfl) ?_ 25 ?_ ?_ ?_; (focus (go_simp; done)); rotate_left; (focus (go_simp; rfl)))
      refine (HC.out.slots p S d w7 T7.out.l).mono ?_
      rw [HNN.out]
      rintro e w8 ⟨rfl, hb8⟩
      have B8 := Lib.hid (B7.out.trans (hb8.mono B7.out.size))
      clear hb8
      refine ⟨_, rfl, B8.out, ?_⟩
      go_simp
      (refine h_read 22 rfl (by kernel_rfl) (by kernel_rfl) ?_ ?_ ?_ ?_; (focus (go_simp; done)); rotate_left; (focus (intro v hv; go_simp; rfl)); go_simp)
      (refine h_read 23 rfl (by kernel_rfl) (by kernel_rfl) (h_free rfl) ?_ ?_ ?_; rotate_left; (focus (intro v hv; go_simp; rfl)); go_simp)
      (refine h_read 24 rfl (by kernel_rfl) (by kernel_rfl) (h_free rfl) ?_ ?_ ?_; rotate_left; (focus (intro v hv; go_simp; rfl)); go_simp)
      refine h_done (by kernel_rfl) ?_
      go_wp2_with fail
      go_ret
      exact ⟨by simp, B8.out⟩
end Go.Proofs.Ytlohfalpcppcjaa.W
