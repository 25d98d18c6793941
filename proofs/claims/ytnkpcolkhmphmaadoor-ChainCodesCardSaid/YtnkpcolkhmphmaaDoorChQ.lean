/- LAYER 22 (chain): Link, All, Start, Check of the reference. -/
import Derived.Test.YtnkpcolkhmphmaaDoorChP
set_option linter.unusedSimpArgs false
set_option linter.unusedVariables false
namespace Go.Proofs.YtnkpcolkhmphmaaDoor.W
open Go Go.ChangeShapes Go.WideShapes Go.ChangeAt Go.RowKit
open Go.Proofs.YtnkpcolkhmphmaaDoor.P (enc dec shaL shaL_len)

set_option maxRecDepth 100000 in
set_option maxHeartbeats 16000000 in
theorem chstart (w : World) : Calls Tryd.prog 14 #[] w fun e w' => e = .returned (.agg (chC chZ).toArray) ∧ Below w.heap.size w w' := by
  have LZS := Lib.hid ch_size
  have LZ := Lib.hid ch_zero
  obtain ⟨s, hs⟩ : ∃ s, str (List.replicate 32 0) = s := ⟨_, rfl⟩
  have HZ := Lib.hid (show chZ = ⟨0, s⟩ by rw [← hs]; rfl)
  rw [HZ.out]
  have HS := Lib.hid hs
  go_enter Tryd.func14, Tryd.ntmps14
  go_wp2_with (first
    | ((with_reducible refine alloc_row (o := ⟨some 0, _, _, _, _, _⟩) rfl _ rfl _ LZ.out ?_); intro w1 hr hb hz; have R1 := Lib.hid hr; have B1 := Lib.hid hb; clear hr hb hz)
    | ((with_reducible refine make_blk (o := ⟨some 1, _, _, _, _, _⟩) rfl _ _ rfl 32 32 ?_ ?_ rfl (by omega) ?_); (focus (first | (go_simp; done) | (go_simp; rfl))); (focus (first | (go_simp; done) | (go_simp; rfl))); intro w2 hk hb hz; have cv := conv_rd (hk.rd' 32 (by simp) (by omega)); rw [HS.out] at cv; have R2 := Lib.hid (R1.out.below hb R1.out.lt); have B2 := Lib.hid (B1.out.trans (hb.mono B1.out.size)); clear hk hb hz)
    | ((with_reducible refine build_row (o := ⟨some 3, _, _, _, _, _⟩) rfl _ _ rfl (chC ⟨0, s⟩) ?_ ?_); (focus (go_simp; exact ch_built1 s)))
    | ((with_reducible refine store_row (o := ⟨none, _, _, _, _, _⟩) rfl _ (.tmp 0) _ rfl w.heap.size (chC ⟨0, s⟩) ?_ ?_ 23 _ R2.out ?_ ?_ ?_ ?_); (focus go_simp); (focus (first | (go_simp; done) | (go_simp; rfl))); (focus (exact LZS.out)); (focus rfl); (focus (exact ch_one _)); intro w3 hr hu; have R3 := Lib.hid hr; have B3 := Lib.hid (B2.out.trans (hu.below (Nat.le_refl _))); clear hr hu))
  exact bodyPost_ret (results_cell_row rfl _ _ w.heap.size 23 _ _ _ (by go_simp) R3.out Tryd.underlying23 rfl LZS.out) rfl ⟨rfl, B3.out⟩
set_option maxRecDepth 100000 in
set_option maxHeartbeats 16000000 in
theorem chcheck (c e : Ch) (a : Option Addr) (n cp : Nat) (L : List BsX) (w : World) (hK : Ks w) (hc : c.fit) (he : e.fit) (h : Ls bsE w a n cp L) (hn : n ≤ 100) (hs : ∀ x ∈ L, x.l.length ≤ 100000) (r : Int) (hr : (c.all L = e ∧ r = 0) ∨ (c.all L ≠ e ∧ r = 23)) :
    Calls Tryd.prog 12 #[.agg (chC c).toArray, .slice a n cp, .agg (chC e).toArray] w fun x w' => x = .returned (.int .i64 r) ∧ Below w.heap.size w w' := by
  have LZS := Lib.hid ch_size
  have HC := Lib.hid (fun w' (hb : Below w.heap.size w w') => (chall c a n cp L w' (hK.below hb hK.pos) hc (h.mono bsOk hb) hn hs))
  have hqf := all_fit L c hc
  obtain ⟨q, hq⟩ : ∃ q, c.all L = q := ⟨_, rfl⟩
  rw [hq] at HC hr hqf
  obtain ⟨d, hd⟩ : ∃ d : Bool, (d = true ↔ q = e) := exb (q = e)
  have HEQ := Lib.hid (fun w => eqCh q e hqf he d hd w)
  have HR := Lib.hid (show r = if d = true then 0 else 23 from r22 hd hr)
  obtain ⟨X, hX⟩ : ∃ X, (chC q).toArray = X := ⟨_, rfl⟩
  obtain ⟨Y, hY⟩ : ∃ Y, (chC e).toArray = Y := ⟨_, rfl⟩
  rw [hX, hY] at HEQ
  rw [hX] at HC
  have HY := Lib.hid hY
  clear h hK hc hq hs hd hr hX hqf he hY
  rw [HY.out]
  go_enter Tryd.func12, Tryd.ntmps12
  go_wp2_with (first
    | ((with_reducible refine box_row (o := ⟨some 3, _, _, _, _, _⟩) rfl _ _ rfl (chC c) rfl ?_); intro w1 hr hb hz; have R1 := Lib.hid hr; have B1 := Lib.hid hb; clear hr hb hz)
    | ((with_reducible refine box_row (o := ⟨some 5, _, _, _, _, _⟩) rfl _ _ rfl (chC e) ?_ ?_); (focus (go_simp; exact HY.out.symm)); intro w2 hr hb hz; have R52 := Lib.hid hr; have R32 := Lib.hid (R1.out.below hb R1.out.lt); have B2 := Lib.hid (B1.out.trans (hb.mono B1.out.size)); clear hr hb hz))
  refine region_h (fun v => Below w2.heap.size w2 v) (by kernel_rfl) (by kernel_rfl) (Below.refl _ _).drew ?_
  obtain ⟨wd, hwd⟩ : ∃ wd, w2.drew = wd := ⟨_, rfl⟩
  have J0 : Hid (Below w2.heap.size w2 wd) := Lib.hid (by rw [← hwd]; exact (Below.refl _ _).drew)
  rw [hwd]
  clear hwd
  (refine h_read 0 rfl (by kernel_rfl) (by kernel_rfl) (h_free rfl) ?_ ?_ ?_; rotate_left; (focus (intro v hv; refine run_cells 23 (.tmp 3) ?_ w.heap.size 0 ?_ (chC c) _ (fun j' u' hj => by rw [hv.cell (p := ⟨w.heap.size, 0 + j', none⟩) R32.out.lt, Nat.zero_add, R32.out.cellV]; exact hj) Tryd.underlying23 rfl ch_size; (focus rfl); go_simp)); go_simp)
  (refine h_read 1 rfl (by kernel_rfl) (by kernel_rfl) (h_free rfl) ?_ ?_ ?_; rotate_left; (focus (intro v hv; go_simp; rfl)); go_simp)
  (refine h_read 3 rfl (by kernel_rfl) (by kernel_rfl) (h_free rfl) ?_ ?_ ?_; rotate_left; (focus (intro v hv; refine run_cells 23 (.tmp 5) ?_ w1.heap.size 0 ?_ (chC e) _ (fun j' u' hj => by rw [hv.cell (p := ⟨w1.heap.size, 0 + j', none⟩) R52.out.lt, Nat.zero_add, R52.out.cellV]; exact hj) Tryd.underlying23 rfl ch_size; (focus rfl); go_simp)); go_simp)
  (refine h_call 2 rfl (by kernel_rfl) (h_free rfl) 10 ?_ ?_ ?_; rotate_left; (focus (go_simp; rfl)))
  refine (HC.out wd (B2.out.trans (J0.out.mono B2.out.size))).mono ?_
  rintro z w4 ⟨rfl, hb⟩
  have J4 := Lib.hid (J0.out.trans (hb.mono J0.out.size))
  clear hb
  refine ⟨_, rfl, J4.out, ?_⟩
  go_simp
  have heq := HEQ.out
  (refine h_read 4 rfl (by kernel_rfl) (by kernel_rfl) (h_free rfl) ?_ ?_ ?_; rotate_left; (focus (intro v hv; try rw [HY.out]; go_simp; rfl)); go_simp)
  refine h_done (by kernel_rfl) ?_
  clear heq
  cases d
  · go_wp2_with fail
    go_ret
    exact ⟨one (vint (by rw [HR.out]; rfl)), B2.out.trans (J4.out.mono B2.out.size)⟩
  · go_wp2_with fail
    go_ret
    exact ⟨one (vint (by rw [HR.out]; rfl)), B2.out.trans (J4.out.mono B2.out.size)⟩
set_option maxRecDepth 100000 in
set_option maxHeartbeats 16000000 in
theorem zclink (c : Ch) (a : Option Addr) (n cp : Nat) (l : List UInt8) (w : World) (hc : c.fit) (h : Rd w a n cp l) (hn : l.length ≤ 100000) :
    Calls Tryd.prog 9 #[.agg (chC c).toArray, .slice a n cp] w fun e w' => e = .returned (.agg (chC (c.link l)).toArray) ∧ Below w.heap.size w w' := by
  have H := Lib.hid h
  have hnl := h.hlen
  have LZS := Lib.hid ch_size
  have LZ := Lib.hid ch_zero
  obtain ⟨ql, qh⟩ := c
  have l1 := hc.l.1
  have l2 := hc.l.2
  have lh := hc.h
  dsimp only at l1 l2 lh
  have he := P.enc_len ql.toNat (by omega)
  obtain ⟨T1, hT1⟩ : ∃ T, qh.data.toList ++ enc ql.toNat = T := ⟨_, rfl⟩
  have hq0 : qh.data.toList.length = qh.size := rfl
  have hT1l : T1.length ≤ 100009 := by rw [← hT1, List.length_append]; omega
  obtain ⟨T2, hT2⟩ : ∃ T, T1 ++ l = T := ⟨_, rfl⟩
  have hT2l : T2.length ≤ 200009 := by rw [← hT2, List.length_append]; omega
  obtain ⟨u, hu⟩ : ∃ u, T2.length = u := ⟨_, rfl⟩
  have E1 := Lib.hid hT1
  have E2 := Lib.hid hT2
  have EU := Lib.hid hu
  obtain ⟨s, hs⟩ : ∃ s, str (shaL T2) = s := ⟨_, rfl⟩
  have ES := Lib.hid hs
  obtain ⟨m, hm1⟩ : ∃ m : Int, (if ql ≤ 4611686018427387903 then ql else 4611686018427387903) + 1 = m := ⟨_, rfl⟩
  rw [show Ch.link ⟨ql, qh⟩ l = ⟨m, s⟩ by unfold Ch.link; dsimp only; rw [← List.append_assoc, hT1, hT2, hs, hm1]]
  have HTL := Lib.hid hT1l
  have HUL := Lib.hid (show u ≤ 200009 by rw [← hu]; exact hT2l)
  clear h hc hT1 hT2 hs hu hq0 hT1l hT2l he
  by_cases hmin : ql ≤ 4611686018427387903
  · have hm2 : m = ql + 1 := by rw [← hm1, if_pos hmin]
    have hwm : IntKind.i64.wrap (ql + 1) = m := by rw [IntKind.wrap_i64]; omega
    have hng : ¬ (4611686018427387903 < ql) := by omega
    clear hm1
    go_enter Tryd.func9, Tryd.ntmps9
    go_wp2_with (first
      | ((with_reducible refine box_row (o := ⟨some 2, _, _, _, _, _⟩) rfl _ _ rfl (chC ⟨ql, qh⟩) rfl ?_); intro w1 hr hb hz; have R1 := Lib.hid hr; have B1 := Lib.hid hb; clear hr hb hz)
      | ((with_reducible refine alloc_row (o := ⟨some 4, _, _, _, _, _⟩) rfl _ rfl _ LZ.out ?_); intro w2 hr hb hz; have R42 := Lib.hid hr; have R22 := Lib.hid (R1.out.below hb R1.out.lt); obtain ⟨k0, k1⟩ := R22.out.c2; have B2 := Lib.hid (B1.out.trans (hb.mono B1.out.size)); clear hr hb hz)
      | ((with_reducible refine conv_frx (o := ⟨some 8, _, _, _, _, _⟩) rfl _ rfl qh ?_ (by unfold maxLen; omega) ?_); (focus (first | (go_simp; done) | (go_simp; rfl))); intro w3 v3 hF hb; obtain ⟨a3, c3, rfl, hrd⟩ := hF.form' qh.size rfl; have Y3 := Lib.hid hrd; have R43 := Lib.hid (R42.out.below hb R42.out.lt); have R23 := Lib.hid (R22.out.below hb R22.out.lt); have B3 := Lib.hid (B2.out.trans (hb.mono B2.out.size)); clear hF hrd hb k1; obtain ⟨j0, j1⟩ := R23.out.c2)
      | (go_at_call 32; (with_reducible refine (rnum a3 qh.size c3 ql qh.data.toList w3 Y3.out l2 (by omega)).mono ?_); rw [E1.out]; rintro x w4 ⟨v4, rfl, hf, hb⟩; have F4 := Lib.hid (hf.base B3.out.size); have R44 := Lib.hid (R43.out.below hb R43.out.lt); have R24 := Lib.hid (R23.out.below hb R23.out.lt); have B4 := Lib.hid (B3.out.trans (hb.mono B3.out.size)); have N4 := Lib.hid (show ∀ g, v4.ownBlock = some g → w3.heap.size ≤ g from fun g hg => (World.ownsRow.lt hf g hg).1); clear hf hb)
      | ((with_reducible refine append_rd (o := ⟨some 13, _, _, _, _, _⟩) rfl _ _ rfl w.heap.size v4 T1 ?_ F4.out a n cp l ?_ (H.out.mono B4.out) ?_ B4.out.size ?_); (focus (first | (go_simp; done) | (go_simp; rfl))); (focus (first | (go_simp; done) | (go_simp; rfl))); (focus (have := HTL.out; omega)); intro v5 w5 hF hb hg; rw [E2.out] at hF; obtain ⟨a5, c5, rfl, hrd⟩ := hF.form' u EU.out; have Y5 := Lib.hid hrd; have R45 := Lib.hid (show Row w5 w1.heap.size 23 _ from (hg.block _ R44.out.lt (fun e => absurd (N4.out _ e.symm) (Nat.not_le_of_lt R43.out.lt))).trans R44.out); have R25 := Lib.hid (show Row w5 w.heap.size 23 _ from (hg.block _ R24.out.lt (fun e => absurd (N4.out _ e.symm) (Nat.not_le_of_lt R23.out.lt))).trans R24.out); have B5 := Lib.hid (B4.out.trans hb); clear hF hb hg hrd))
    refine region_t (fun v => Row v w.heap.size 23 (chC ⟨ql, qh⟩)) 7 (by kernel_rfl) (by kernel_rfl) (by kernel_rfl) (R25.out.drewN 1) ?_
    obtain ⟨wd, hwd⟩ : ∃ wd, w5.drew = wd := ⟨_, rfl⟩
    have D0 : Hid (Below w5.heap.size w5 wd) := Lib.hid (by rw [← hwd]; exact (Below.refl _ _).drew)
    rw [hwd]
    clear hwd
    have RD := Lib.hid (R25.out.below D0.out R25.out.lt)
    have R4D := Lib.hid (R45.out.below D0.out R45.out.lt)
    have BD := Lib.hid (B5.out.trans (D0.out.mono B5.out.size))
    (refine t_read 0 rfl (by kernel_rfl) (by kernel_rfl) (by kernel_rfl) (t_free rfl) ?_ ?_ ?_; rotate_left; (focus (intro v hv; go_simp; rfl)); go_simp)
    (refine t_read 1 rfl (by kernel_rfl) (by kernel_rfl) (by kernel_rfl) (t_free rfl) ?_ ?_ ?_; rotate_left; (focus (intro v hv; have y0 := hv.c2.1; have y1 := hv.c2.2; go_simp; rfl)); go_simp)
    (refine t_read 2 rfl (by kernel_rfl) (by kernel_rfl) (by kernel_rfl) (t_free rfl) (.int .i64 (ql)) ?_ ?_; (focus (intro v hv; go_simp; first | done | rfl | (intros; omega) | (rw [if_neg (by omega)]) | (rw [if_pos (by omega)]) | (split <;> first | rfl | omega))); go_simp)
    (refine t_read 3 rfl (by kernel_rfl) (by kernel_rfl) (by kernel_rfl) (t_free rfl) ?_ ?_ ?_; rotate_left; (focus (intro v hv; go_simp; rfl)); go_simp)
    (refine t_read 4 rfl (by kernel_rfl) (by kernel_rfl) (by kernel_rfl) (t_free rfl) ?_ ?_ ?_; rotate_left; (focus (intro v hv; go_simp; rfl)); go_simp)
    (refine t_call 5 rfl (by kernel_rfl) rfl (t_free rfl) 33 ?_ ?_ ?_; rotate_left; (focus (go_simp; rfl)))
    refine (rsum_any a5 u c5 T2 wd (Y5.out.mono D0.out) (by have := HUL.out; omega)).mono ?_
    rw [ES.out]
    rintro e w6 ⟨rfl, hb⟩
    have R6 := Lib.hid (RD.out.below hb RD.out.lt)
    have R46 := Lib.hid (R4D.out.below hb R4D.out.lt)
    have B6 := Lib.hid (BD.out.trans (hb.mono BD.out.size))
    clear hb
    refine ⟨_, rfl, R6.out, ?_⟩
    go_simp
    have qb := ch_built (m) s
    (refine t_read 6 rfl (by kernel_rfl) (by kernel_rfl) (by kernel_rfl) (t_free rfl) ?_ ?_ ?_; rotate_left; (focus (intro v hv; go_simp; rfl)); go_simp)
    (refine t_last 7 rfl (by kernel_rfl) rfl (by kernel_rfl) (by kernel_rfl) ?_; intro K hK)
    refine store_row rfl _ _ _ rfl w1.heap.size (chC ⟨m, s⟩) (by go_simp) (by first | (go_simp; done) | (go_simp; rfl)) 23 _ R46.out LZS.out rfl (ch_one _) ?_
    intro w7 hr hu
    have R7 := Lib.hid hr
    have B7 := Lib.hid (B6.out.trans (hu.below B1.out.size))
    clear hr hu
    refine hK _ _ ?_
    go_simp
    go_wp2_with fail
    exact bodyPost_ret (results_cell_row rfl _ _ w1.heap.size 23 _ _ _ (by go_simp) R7.out Tryd.underlying23 rfl LZS.out) rfl ⟨rfl, B7.out⟩
  · have hm2 : m = 4611686018427387904 := by rw [← hm1, if_neg hmin]; rfl
    have hgt : 4611686018427387903 < ql := by omega
    subst hm2
    clear hm1
    go_enter Tryd.func9, Tryd.ntmps9
    go_wp2_with (first
      | ((with_reducible refine box_row (o := ⟨some 2, _, _, _, _, _⟩) rfl _ _ rfl (chC ⟨ql, qh⟩) rfl ?_); intro w1 hr hb hz; have R1 := Lib.hid hr; have B1 := Lib.hid hb; clear hr hb hz)
      | ((with_reducible refine alloc_row (o := ⟨some 4, _, _, _, _, _⟩) rfl _ rfl _ LZ.out ?_); intro w2 hr hb hz; have R42 := Lib.hid hr; have R22 := Lib.hid (R1.out.below hb R1.out.lt); obtain ⟨k0, k1⟩ := R22.out.c2; have B2 := Lib.hid (B1.out.trans (hb.mono B1.out.size)); clear hr hb hz)
      | ((with_reducible refine conv_frx (o := ⟨some 8, _, _, _, _, _⟩) rfl _ rfl qh ?_ (by unfold maxLen; omega) ?_); (focus (first | (go_simp; done) | (go_simp; rfl))); intro w3 v3 hF hb; obtain ⟨a3, c3, rfl, hrd⟩ := hF.form' qh.size rfl; have Y3 := Lib.hid hrd; have R43 := Lib.hid (R42.out.below hb R42.out.lt); have R23 := Lib.hid (R22.out.below hb R22.out.lt); have B3 := Lib.hid (B2.out.trans (hb.mono B2.out.size)); clear hF hrd hb k1; obtain ⟨j0, j1⟩ := R23.out.c2)
      | (go_at_call 32; (with_reducible refine (rnum a3 qh.size c3 ql qh.data.toList w3 Y3.out l2 (by omega)).mono ?_); rw [E1.out]; rintro x w4 ⟨v4, rfl, hf, hb⟩; have F4 := Lib.hid (hf.base B3.out.size); have R44 := Lib.hid (R43.out.below hb R43.out.lt); have R24 := Lib.hid (R23.out.below hb R23.out.lt); have B4 := Lib.hid (B3.out.trans (hb.mono B3.out.size)); have N4 := Lib.hid (show ∀ g, v4.ownBlock = some g → w3.heap.size ≤ g from fun g hg => (World.ownsRow.lt hf g hg).1); clear hf hb)
      | ((with_reducible refine append_rd (o := ⟨some 13, _, _, _, _, _⟩) rfl _ _ rfl w.heap.size v4 T1 ?_ F4.out a n cp l ?_ (H.out.mono B4.out) ?_ B4.out.size ?_); (focus (first | (go_simp; done) | (go_simp; rfl))); (focus (first | (go_simp; done) | (go_simp; rfl))); (focus (have := HTL.out; omega)); intro v5 w5 hF hb hg; rw [E2.out] at hF; obtain ⟨a5, c5, rfl, hrd⟩ := hF.form' u EU.out; have Y5 := Lib.hid hrd; have R45 := Lib.hid (show Row w5 w1.heap.size 23 _ from (hg.block _ R44.out.lt (fun e => absurd (N4.out _ e.symm) (Nat.not_le_of_lt R43.out.lt))).trans R44.out); have R25 := Lib.hid (show Row w5 w.heap.size 23 _ from (hg.block _ R24.out.lt (fun e => absurd (N4.out _ e.symm) (Nat.not_le_of_lt R23.out.lt))).trans R24.out); have B5 := Lib.hid (B4.out.trans hb); clear hF hb hg hrd))
    refine region_t (fun v => Row v w.heap.size 23 (chC ⟨ql, qh⟩)) 7 (by kernel_rfl) (by kernel_rfl) (by kernel_rfl) (R25.out.drewN 1) ?_
    obtain ⟨wd, hwd⟩ : ∃ wd, w5.drew = wd := ⟨_, rfl⟩
    have D0 : Hid (Below w5.heap.size w5 wd) := Lib.hid (by rw [← hwd]; exact (Below.refl _ _).drew)
    rw [hwd]
    clear hwd
    have RD := Lib.hid (R25.out.below D0.out R25.out.lt)
    have R4D := Lib.hid (R45.out.below D0.out R45.out.lt)
    have BD := Lib.hid (B5.out.trans (D0.out.mono B5.out.size))
    (refine t_read 0 rfl (by kernel_rfl) (by kernel_rfl) (by kernel_rfl) (t_free rfl) ?_ ?_ ?_; rotate_left; (focus (intro v hv; go_simp; rfl)); go_simp)
    (refine t_read 1 rfl (by kernel_rfl) (by kernel_rfl) (by kernel_rfl) (t_free rfl) ?_ ?_ ?_; rotate_left; (focus (intro v hv; have y0 := hv.c2.1; have y1 := hv.c2.2; go_simp; rfl)); go_simp)
    (refine t_read 2 rfl (by kernel_rfl) (by kernel_rfl) (by kernel_rfl) (t_free rfl) (.int .i64 (4611686018427387903)) ?_ ?_; (focus (intro v hv; go_simp; first | done | rfl | (intros; omega) | (rw [if_neg (by omega)]) | (rw [if_pos (by omega)]) | (split <;> first | rfl | omega))); go_simp)
    (refine t_read 3 rfl (by kernel_rfl) (by kernel_rfl) (by kernel_rfl) (t_free rfl) ?_ ?_ ?_; rotate_left; (focus (intro v hv; go_simp; rfl)); go_simp)
    (refine t_read 4 rfl (by kernel_rfl) (by kernel_rfl) (by kernel_rfl) (t_free rfl) ?_ ?_ ?_; rotate_left; (focus (intro v hv; go_simp; rfl)); go_simp)
    (refine t_call 5 rfl (by kernel_rfl) rfl (t_free rfl) 33 ?_ ?_ ?_; rotate_left; (focus (go_simp; rfl)))
    refine (rsum_any a5 u c5 T2 wd (Y5.out.mono D0.out) (by have := HUL.out; omega)).mono ?_
    rw [ES.out]
    rintro e w6 ⟨rfl, hb⟩
    have R6 := Lib.hid (RD.out.below hb RD.out.lt)
    have R46 := Lib.hid (R4D.out.below hb R4D.out.lt)
    have B6 := Lib.hid (BD.out.trans (hb.mono BD.out.size))
    clear hb
    refine ⟨_, rfl, R6.out, ?_⟩
    go_simp
    have qb := ch_built (4611686018427387904) s
    (refine t_read 6 rfl (by kernel_rfl) (by kernel_rfl) (by kernel_rfl) (t_free rfl) ?_ ?_ ?_; rotate_left; (focus (intro v hv; go_simp; rfl)); go_simp)
    (refine t_last 7 rfl (by kernel_rfl) rfl (by kernel_rfl) (by kernel_rfl) ?_; intro K hK)
    refine store_row rfl _ _ _ rfl w1.heap.size (chC ⟨4611686018427387904, s⟩) (by go_simp) (by first | (go_simp; done) | (go_simp; rfl)) 23 _ R46.out LZS.out rfl (ch_one _) ?_
    intro w7 hr hu
    have R7 := Lib.hid hr
    have B7 := Lib.hid (B6.out.trans (hu.below B1.out.size))
    clear hr hu
    refine hK _ _ ?_
    go_simp
    go_wp2_with fail
    exact bodyPost_ret (results_cell_row rfl _ _ w1.heap.size 23 _ _ _ (by go_simp) R7.out Tryd.underlying23 rfl LZS.out) rfl ⟨rfl, B7.out⟩
set_option maxRecDepth 100000 in
set_option maxHeartbeats 16000000 in
theorem zcall (c : Ch) (a : Option Addr) (n cp : Nat) (L : List BsX) (w : World) (hc : c.fit) (h : Ls bsE w a n cp L) (hn : n ≤ 100) (hs : ∀ x ∈ L, x.l.length ≤ 100000) :
    Calls Tryd.prog 11 #[.agg (chC c).toArray, .slice a n cp] w fun e w' => e = .returned (.agg (chC (c.all L)).toArray) ∧ Below w.heap.size w w' := by
  have H := Lib.hid h
  have HL := Lib.hid h.hlen
  have HS := Lib.hid hs
  have hm := h.hmax
  have hle := h.hle
  have LZS := Lib.hid ch_size
  have LZ := Lib.hid ch_zero
  have HF := Lib.hid (fun k => all_fit (L.take k) c hc)
  clear h hs hc
  go_enter Tryd.func11, Tryd.ntmps11
  go_wp2_with (first
    | ((with_reducible refine box_row (o := ⟨some 2, _, _, _, _, _⟩) rfl _ _ rfl (chC c) rfl ?_); intro w1 hr hb hz; have R1 := Lib.hid hr; have B1 := Lib.hid hb; have S1 := Lib.hid (show w.heap.size < w1.heap.size by omega); clear hr hb hz)
    | ((with_reducible refine alloc_row (o := ⟨some 4, _, _, _, _, _⟩) rfl _ rfl _ LZ.out ?_); intro w2 hr hb hz; have R42 := Lib.hid hr; have R22 := Lib.hid (R1.out.below hb R1.out.lt); have B2 := Lib.hid (B1.out.trans (hb.mono B1.out.size)); clear hr hb hz))
  go_loopw [5] (fun i wr => ∃ (k : Nat) (q : Ch), i = .int .i64 (k : Int) ∧ k ≤ n ∧ Hid (c.all (L.take k) = q) ∧ Hid (Row wr w.heap.size 23 (chC q)) ∧ Hid (Row wr w1.heap.size 23 (chC ⟨0, ⟨#[]⟩⟩)) ∧ Hid (Below w.heap.size w wr)) (fun i _ => n - (intOf i).toNat)
  case atStart => exact ⟨0, c, rfl, Nat.zero_le _, Lib.hid rfl, R22, R42, B2⟩
  case round =>
    obtain ⟨k, q, rfl, hk, HQ, R, R4, B⟩ := hrel
    have HQF := Lib.hid (show q.fit by rw [← HQ.out]; exact HF.out k)
    by_cases hlt : k < n
    · obtain ⟨b, o, x, rfl, hx, hcell, hfx⟩ := H.out.at bsOk B.out k hlt
      have hcell0 := hcell 0 _ rfl
      have HXL := Lib.hid (HS.out x (List.mem_of_getElem? hx))
      have HN := Lib.hid (all_next c L k x hx)
      obtain ⟨xa, xn, xc, xl⟩ := x
      dsimp only at HN HXL
      have RX := Lib.hid (show Rd wr xa xn xc xl from hfx)
      have k0 : wr.cell? ⟨b, o + k, none⟩ = some (.slice xa xn xc) := by
        have e : o + k * bsE.k + 0 = o + k := by show o + k * 1 + 0 = o + k; omega
        rw [e] at hcell0; exact hcell0
      have LT := Lib.hid (World.block_lt_of_cell? wr _ k0)
      have K0 := Lib.hid k0
      have g1 : (0 : Int) ≤ (k : Int) := by omega
      have g2 : (k : Int) < (n : Int) := by omega
      obtain ⟨q2, hq2⟩ : ∃ q2, q.link xl = q2 := ⟨_, rfl⟩
      have HLK := Lib.hid (show c.all (L.take (k + 1)) = q2 by rw [HN.out, HQ.out]; exact hq2)
      have HC := Lib.hid (fun w' (hb : Below wr.heap.size wr w') => zclink q xa xn xc xl w' HQF.out (RX.out.mono hb) HXL.out)
      rw [hq2] at HC
      clear hx hcell hfx hcell0 hq2 k0
      go_wp2_with fail
      refine region_t (fun v => Row v w.heap.size 23 (chC q) ∧ Below wr.heap.size wr v) 6 (by kernel_rfl) (by kernel_rfl) (by kernel_rfl) ⟨R.out.drewN 1, (Below.refl _ _).drew⟩ ?_
      obtain ⟨wd, hwd⟩ : ∃ wd, wr.drew = wd := ⟨_, rfl⟩
      have D0 : Hid (Below wr.heap.size wr wd) := Lib.hid (by rw [← hwd]; exact (Below.refl _ _).drew)
      rw [hwd]
      clear hwd
      have RD := Lib.hid (R.out.below D0.out R.out.lt)
      have R4D := Lib.hid (R4.out.below D0.out R4.out.lt)
      have BD := Lib.hid (B.out.trans (D0.out.mono B.out.size))
      (refine t_read 0 rfl (by kernel_rfl) (by kernel_rfl) (by kernel_rfl) (t_free rfl) ?_ ?_ ?_; rotate_left; (focus (intro v hv; refine run_cells 23 (.tmp 2) ?_ w.heap.size 0 ?_ (chC q) _ (fun j' u' hj => by rw [Nat.zero_add, hv.1.cellV]; exact hj) Tryd.underlying23 rfl ch_size; (focus rfl); go_simp)); go_simp)
      (refine t_read 1 rfl (by kernel_rfl) (by kernel_rfl) (by kernel_rfl) (t_free rfl) ?_ ?_ ?_; rotate_left; (focus (intro v hv; go_simp; rfl)); go_simp)
      (refine t_read 2 rfl (by kernel_rfl) (by kernel_rfl) (by kernel_rfl) (t_free rfl) ?_ ?_ ?_; rotate_left; (focus (intro v hv; go_simp; rfl)); go_simp)
      (refine t_read 3 rfl (by kernel_rfl) (by kernel_rfl) (by kernel_rfl) (t_free rfl) ?_ ?_ ?_; rotate_left; (focus (intro v hv; go_simp; rfl)); go_simp)
      (refine t_read 4 rfl (by kernel_rfl) (by kernel_rfl) (by kernel_rfl) (t_free rfl) ?_ ?_ ?_; rotate_left; (focus (intro v hv; have y0 := (hv.2.cell (p := ⟨b, o + k, none⟩) LT.out).trans K0.out; go_simp; rfl)); go_simp)
      (refine t_call 5 rfl (by kernel_rfl) rfl (t_free rfl) 9 ?_ ?_ ?_; rotate_left; (focus (go_simp; rfl)))
      refine (HC.out wd D0.out).mono ?_
      rintro e w6 ⟨rfl, hb⟩
      have R6 := Lib.hid (RD.out.below hb RD.out.lt)
      have R46 := Lib.hid (R4D.out.below hb R4D.out.lt)
      have B6 := Lib.hid (BD.out.trans (hb.mono BD.out.size))
      have D6 := Lib.hid (D0.out.trans (hb.mono D0.out.size))
      clear hb
      refine ⟨_, rfl, ⟨R6.out, D6.out⟩, ?_⟩
      go_simp
      (refine t_last 6 rfl (by kernel_rfl) rfl (by kernel_rfl) (by kernel_rfl) ?_; intro K hK)
      refine store_row rfl _ _ _ rfl w.heap.size (chC q2) (by go_simp) (by first | (go_simp; done) | (go_simp; rfl)) 23 _ R6.out LZS.out rfl (ch_one _) ?_
      intro w7 hr hu
      have R7 := Lib.hid hr
      have R47 := Lib.hid (R46.out.upd hu (Nat.ne_of_gt S1.out))
      have B7 := Lib.hid (B6.out.trans (hu.below (Nat.le_refl _)))
      clear hr hu
      refine hK _ _ ?_
      go_simp
      go_wp2_with fail
      go_roundw
      case rel => exact ⟨k + 1, q2, vint (by omega), by omega, HLK, R7, R47, B7⟩
      case measure => simp [intOf]; omega
    · obtain rfl : n = k := by omega
      have ht : L.take n = L := List.take_of_length_le (by rw [HL.out]; exact Nat.le_refl _)
      rw [ht] at HQ
      clear ht
      go_wp2_with (first
        | ((with_reducible refine load_row (o := ⟨some 18, _, _, _, _, _⟩) rfl _ _ rfl w.heap.size ?_ _ (chC q) _ R.out Tryd.underlying23 rfl ?_ ?_); (focus go_simp); (focus (exact LZS.out)))
        | ((with_reducible refine store_row (o := ⟨none, _, _, _, _, _⟩) rfl _ (.tmp 4) _ rfl w1.heap.size (chC q) ?_ ?_ 23 _ R4.out ?_ ?_ ?_ ?_); (focus go_simp); (focus (first | (go_simp; done) | (go_simp; rfl))); (focus (exact LZS.out)); (focus rfl); (focus (exact ch_one _)); intro w9 hr hu; have R49 := Lib.hid hr; have B9 := Lib.hid (B.out.trans (hu.below B1.out.size)); clear hr hu))
      exact bodyPost_ret (results_cell_row rfl _ _ w1.heap.size 23 _ _ _ (by go_simp) R49.out Tryd.underlying23 rfl LZS.out) rfl ⟨by rw [HQ.out], B9.out⟩
set_option maxRecDepth 100000 in
set_option maxHeartbeats 16000000 in
theorem zcstart (w : World) : Calls Tryd.prog 15 #[] w fun e w' => e = .returned (.agg (chC chZ).toArray) ∧ Below w.heap.size w w' := by
  have LZS := Lib.hid ch_size
  have LZ := Lib.hid ch_zero
  obtain ⟨s, hs⟩ : ∃ s, str (List.replicate 32 0) = s := ⟨_, rfl⟩
  have HZ := Lib.hid (show chZ = ⟨0, s⟩ by rw [← hs]; rfl)
  rw [HZ.out]
  have HS := Lib.hid hs
  go_enter Tryd.func15, Tryd.ntmps15
  go_wp2_with (first
    | ((with_reducible refine alloc_row (o := ⟨some 0, _, _, _, _, _⟩) rfl _ rfl _ LZ.out ?_); intro w1 hr hb hz; have R1 := Lib.hid hr; have B1 := Lib.hid hb; clear hr hb hz)
    | ((with_reducible refine make_blk (o := ⟨some 1, _, _, _, _, _⟩) rfl _ _ rfl 32 32 ?_ ?_ rfl (by omega) ?_); (focus (first | (go_simp; done) | (go_simp; rfl))); (focus (first | (go_simp; done) | (go_simp; rfl))); intro w2 hk hb hz; have cv := conv_rd (hk.rd' 32 (by simp) (by omega)); rw [HS.out] at cv; have R2 := Lib.hid (R1.out.below hb R1.out.lt); have B2 := Lib.hid (B1.out.trans (hb.mono B1.out.size)); clear hk hb hz)
    | ((with_reducible refine build_row (o := ⟨some 3, _, _, _, _, _⟩) rfl _ _ rfl (chC ⟨0, s⟩) ?_ ?_); (focus (go_simp; exact ch_built1 s)))
    | ((with_reducible refine store_row (o := ⟨none, _, _, _, _, _⟩) rfl _ (.tmp 0) _ rfl w.heap.size (chC ⟨0, s⟩) ?_ ?_ 23 _ R2.out ?_ ?_ ?_ ?_); (focus go_simp); (focus (first | (go_simp; done) | (go_simp; rfl))); (focus (exact LZS.out)); (focus rfl); (focus (exact ch_one _)); intro w3 hr hu; have R3 := Lib.hid hr; have B3 := Lib.hid (B2.out.trans (hu.below (Nat.le_refl _))); clear hr hu))
  exact bodyPost_ret (results_cell_row rfl _ _ w.heap.size 23 _ _ _ (by go_simp) R3.out Tryd.underlying23 rfl LZS.out) rfl ⟨rfl, B3.out⟩
set_option maxRecDepth 100000 in
set_option maxHeartbeats 16000000 in
theorem zccheck (c e : Ch) (a : Option Addr) (n cp : Nat) (L : List BsX) (w : World) (hc : c.fit) (he : e.fit) (h : Ls bsE w a n cp L) (hn : n ≤ 100) (hs : ∀ x ∈ L, x.l.length ≤ 100000) (r : Int) (hr : (c.all L = e ∧ r = 0) ∨ (c.all L ≠ e ∧ r = 23)) :
    Calls Tryd.prog 13 #[.agg (chC c).toArray, .slice a n cp, .agg (chC e).toArray] w fun x w' => x = .returned (.int .i64 r) ∧ Below w.heap.size w w' := by
  have LZS := Lib.hid ch_size
  have HC := Lib.hid (fun w' (hb : Below w.heap.size w w') => (zcall c a n cp L w' hc (h.mono bsOk hb) hn hs))
  have hqf := all_fit L c hc
  obtain ⟨q, hq⟩ : ∃ q, c.all L = q := ⟨_, rfl⟩
  rw [hq] at HC hr hqf
  obtain ⟨d, hd⟩ : ∃ d : Bool, (d = true ↔ q = e) := exb (q = e)
  have HEQ := Lib.hid (fun w => eqCh q e hqf he d hd w)
  have HR := Lib.hid (show r = if d = true then 0 else 23 from r22 hd hr)
  obtain ⟨X, hX⟩ : ∃ X, (chC q).toArray = X := ⟨_, rfl⟩
  obtain ⟨Y, hY⟩ : ∃ Y, (chC e).toArray = Y := ⟨_, rfl⟩
  rw [hX, hY] at HEQ
  rw [hX] at HC
  have HY := Lib.hid hY
  clear h hc hq hs hd hr hX hqf he hY
  rw [HY.out]
  go_enter Tryd.func13, Tryd.ntmps13
  go_wp2_with (first
    | ((with_reducible refine box_row (o := ⟨some 3, _, _, _, _, _⟩) rfl _ _ rfl (chC c) rfl ?_); intro w1 hr hb hz; have R1 := Lib.hid hr; have B1 := Lib.hid hb; clear hr hb hz)
    | ((with_reducible refine box_row (o := ⟨some 5, _, _, _, _, _⟩) rfl _ _ rfl (chC e) ?_ ?_); (focus (go_simp; exact HY.out.symm)); intro w2 hr hb hz; have R52 := Lib.hid hr; have R32 := Lib.hid (R1.out.below hb R1.out.lt); have B2 := Lib.hid (B1.out.trans (hb.mono B1.out.size)); clear hr hb hz))
  refine region_h (fun v => Below w2.heap.size w2 v) (by kernel_rfl) (by kernel_rfl) (Below.refl _ _).drew ?_
  obtain ⟨wd, hwd⟩ : ∃ wd, w2.drew = wd := ⟨_, rfl⟩
  have J0 : Hid (Below w2.heap.size w2 wd) := Lib.hid (by rw [← hwd]; exact (Below.refl _ _).drew)
  rw [hwd]
  clear hwd
  (refine h_read 0 rfl (by kernel_rfl) (by kernel_rfl) (h_free rfl) ?_ ?_ ?_; rotate_left; (focus (intro v hv; refine run_cells 23 (.tmp 3) ?_ w.heap.size 0 ?_ (chC c) _ (fun j' u' hj => by rw [hv.cell (p := ⟨w.heap.size, 0 + j', none⟩) R32.out.lt, Nat.zero_add, R32.out.cellV]; exact hj) Tryd.underlying23 rfl ch_size; (focus rfl); go_simp)); go_simp)
  (refine h_read 1 rfl (by kernel_rfl) (by kernel_rfl) (h_free rfl) ?_ ?_ ?_; rotate_left; (focus (intro v hv; go_simp; rfl)); go_simp)
  (refine h_read 3 rfl (by kernel_rfl) (by kernel_rfl) (h_free rfl) ?_ ?_ ?_; rotate_left; (focus (intro v hv; refine run_cells 23 (.tmp 5) ?_ w1.heap.size 0 ?_ (chC e) _ (fun j' u' hj => by rw [hv.cell (p := ⟨w1.heap.size, 0 + j', none⟩) R52.out.lt, Nat.zero_add, R52.out.cellV]; exact hj) Tryd.underlying23 rfl ch_size; (focus rfl); go_simp)); go_simp)
  (refine h_call 2 rfl (by kernel_rfl) (h_free rfl) 11 ?_ ?_ ?_; rotate_left; (focus (go_simp; rfl)))
  refine (HC.out wd (B2.out.trans (J0.out.mono B2.out.size))).mono ?_
  rintro z w4 ⟨rfl, hb⟩
  have J4 := Lib.hid (J0.out.trans (hb.mono J0.out.size))
  clear hb
  refine ⟨_, rfl, J4.out, ?_⟩
  go_simp
  have heq := HEQ.out
  (refine h_read 4 rfl (by kernel_rfl) (by kernel_rfl) (h_free rfl) ?_ ?_ ?_; rotate_left; (focus (intro v hv; try rw [HY.out]; go_simp; rfl)); go_simp)
  refine h_done (by kernel_rfl) ?_
  clear heq
  cases d
  · go_wp2_with fail
    go_ret
    exact ⟨one (vint (by rw [HR.out]; rfl)), B2.out.trans (J4.out.mono B2.out.size)⟩
  · go_wp2_with fail
    go_ret
    exact ⟨one (vint (by rw [HR.out]; rfl)), B2.out.trans (J4.out.mono B2.out.size)⟩
end Go.Proofs.YtnkpcolkhmphmaaDoor.W
