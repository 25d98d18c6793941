/- LAYER 25 (board): Apply of the program. -/
import Derived.Test.YtkmdbdieloimiaaBdM
set_option linter.unusedSimpArgs false
set_option linter.unusedVariables false
namespace Go.Proofs.Ytkmdbdieloimiaa.W
open Go Go.ChangeShapes Go.WideShapes Go.ChangeAt Go.RowKit
open Go.Proofs.Ytkmdbdieloimiaa.S

set_option maxRecDepth 100000 in
set_option maxHeartbeats 32000000 in
theorem pbapplyD (v : Value) (b : Bd) (x : CmX) (w : World) (h : BdV w v b) (hok : b.ok = true) (hx : x.fit w) (hgv : gives x.m = true) (hfit : ((others b x.m.nu).map Sh.by' ++ [x.m.by']).sum ≤ b.cap) (hby : 0 < x.m.by') : Calls Try.prog 9 #[v, .agg x.cells.toArray] w fun e w' => ∃ v', e = .returned (.tuple #[v', .agg (resC 0 (b.app x.m).2.1 (b.app x.m).2.2.1 (b.app x.m).2.2.2 0).toArray]) ∧ BdF w' w.heap.size v' (b.app x.m).1 ∧ Below w.heap.size w w' := by
  obtain ⟨a, n, c, rfl, hc, hL⟩ := h
  obtain ⟨cp, L⟩ := b
  obtain ⟨⟨cl, sq, kd, id, ep, V, sp, nm, nu, by1, ti, PL⟩, va, vn, vc, pa, pn, pc⟩ := x
  have hn4 := bd_four hok
  have hoth := oth_t40 hok nu
  have hbyf : SI64 by1 := hx.by'
  have hnuf : SI64 nu := hx.nu
  dsimp only at hc hL hn4 hoth hgv hfit hby ⊢
  rw [show Bd.app ⟨cp, L⟩ ⟨cl, sq, kd, id, ep, V, sp, nm, nu, by1, ti, PL⟩ = (⟨cp, insP (abS nu) ⟨nu, by1⟩ (others ⟨cp, L⟩ nu)⟩, 0, totV (insP (abS nu) ⟨nu, by1⟩ (others ⟨cp, L⟩ nu)), by1) from by unfold Bd.app; rw [if_neg (by rw [hgv]; decide), if_neg (show ¬ ¬ (((others ⟨cp, L⟩ nu).map Sh.by' ++ [by1]).sum ≤ cp) from fun h => h hfit), if_pos hby]]
  dsimp only
  have HC := Lib.hid hc
  have HL := Lib.hid hL.hlen
  have HF := Lib.hid (show ∀ x ∈ L, x.fit from hL.hfit)
  have hn2 : n ≤ 4 := by rw [← hL.hlen]; exact hn4
  have LZ := Lib.hid bd_zero
  have LZS := Lib.hid bd_size
  have RZ := Lib.hid res_zero
  have RZS := Lib.hid res_size
  have CZS := Lib.hid cm_size
  have HOW := Lib.hid (fun w' (hb : Below w.heap.size w w') => owboard cp a n c L w' (hL.mono shOk hb) (by omega))
  have HCL := Lib.hid (fun w' (hb : Below w.heap.size w w') => shclone a n c L w' (hL.mono shOk hb) (by omega))
  have HSH := Lib.hid (pbshares ⟨⟨cl, sq, kd, id, ep, V, sp, nm, nu, by1, ti, PL⟩, va, vn, vc, pa, pn, pc⟩)
  rw [show gives _ = true from hgv] at HSH
  obtain ⟨F, hF⟩ : ∃ F, others ⟨cp, L⟩ nu = F := ⟨_, rfl⟩
  rw [hF] at hoth hfit
  try rw [hF]
  have HFF := Lib.hid (show L.filter (fun s => !(ofS nu s)) = F from hF)
  have HFfit := Lib.hid (show ∀ x ∈ F, x.fit from fun x hx => by rw [← hF] at hx; exact hL.hfit x (List.mem_filter.1 hx).1)
  obtain ⟨nF, hnF⟩ : ∃ k, F.length = k := ⟨_, rfl⟩
  have HFN := Lib.hid hnF
  have HF4 := Lib.hid (show nF ≤ 4 by rw [← hnF]; exact hoth.2)
  have HFB := Lib.hid (by_fit HFfit.out)
  have HFNB := Lib.hid (show (F.map Sh.by').length = nF by rw [List.length_map]; exact hnF)
  have HFX := Lib.hid (show ∀ x ∈ F.map Sh.by' ++ [by1], SI64 x from fun x hx => by
    rcases List.mem_append.1 hx with h | h
    · exact HFB.out x h
    · rw [List.mem_singleton.1 h]; exact hbyf)
  have HFXN := Lib.hid (show (F.map Sh.by' ++ [by1]).length = nF + 1 by rw [List.length_append, HFNB.out]; rfl)
  have hg2 : 0 ≤ by1 ∧ by1 ≤ 1099511627776 := by
    have hg := hgv
    unfold gives at hg
    simp only [Bool.and_eq_true, in64_iff] at hg
    exact hg.2.2
  have HT40 := Lib.hid (show T40s (F.map Sh.by' ++ [by1]) from fun x hx => by
    rcases List.mem_append.1 hx with h | h
    · exact all_t40 hoth.1 x h
    · rw [List.mem_singleton.1 h]; exact hg2)
  have HBY := Lib.hid hbyf
  obtain ⟨I, hI⟩ : ∃ I, insP (abS nu) ⟨nu, by1⟩ F = I := ⟨_, rfl⟩
  try rw [hI]
  have HII := Lib.hid hI
  have HSF := Lib.hid (show Sh.fit ⟨nu, by1⟩ from ⟨hnuf, hbyf⟩)
  have HIfit := Lib.hid (show ∀ x ∈ I, x.fit from fun x hx => by
    rw [← hI, mem_insP] at hx
    rcases hx with rfl | hx
    · exact HSF.out
    · exact HFfit.out x hx)
  have HIN := Lib.hid (show I.length = nF + 1 by rw [← hI, insP_len, HFN.out])
  have HSUM := Lib.hid (show decide ((F.map Sh.by' ++ [by1]).sum ≤ cp) = true from decide_eq_true hfit)
  clear hL hc hok hx hoth hgv hn4 hF hnF hfit hg2 hI
  go_enter Try.func9, Try.ntmps9
  go_wp2_with (first
    | ((with_reducible refine box_row (o := ⟨some 2, _, _, _, _, _⟩) rfl _ _ rfl (bdC cp a n c) rfl ?_); intro w1 hr hb hz; have R1 := Lib.hid hr; have B1 := Lib.hid hb; have S1 := Lib.hid (show w.heap.size < w1.heap.size by omega); clear hr hb hz)
    | ((with_reducible refine box_row (o := ⟨some 3, _, _, _, _, _⟩) rfl _ _ rfl (cmC cl sq kd id ep va vn vc sp nm nu by1 ti pa pn pc) rfl ?_); intro w2 hr hb hz; have X2 := Lib.hid hr; have R2 := Lib.hid (R1.out.below hb R1.out.lt); have B2 := Lib.hid (B1.out.trans (hb.mono B1.out.size)); have S2 := Lib.hid (show w1.heap.size < w2.heap.size by omega); clear hr hb hz)
    | ((with_reducible refine alloc_row (o := ⟨some 4, _, _, _, _, _⟩) rfl _ rfl _ LZ.out ?_); intro w3 hr hb hz; have P3 := Lib.hid hr; have R3 := Lib.hid (R2.out.below hb R2.out.lt); have X3 := Lib.hid (X2.out.below hb X2.out.lt); have B3 := Lib.hid (B2.out.trans (hb.mono B2.out.size)); have S3 := Lib.hid (show w2.heap.size < w3.heap.size by omega); clear hr hb hz)
    | ((with_reducible refine alloc_row (o := ⟨some 5, _, _, _, _, _⟩) rfl _ rfl _ RZ.out ?_); intro w4 hr hb hz; have Q4 := Lib.hid hr; have P4 := Lib.hid (P3.out.below hb P3.out.lt); have R4 := Lib.hid (R3.out.below hb R3.out.lt); have X4 := Lib.hid (X3.out.below hb X3.out.lt); have B4 := Lib.hid (B3.out.trans (hb.mono B3.out.size)); have S4 := Lib.hid (show w3.heap.size < w4.heap.size by omega); clear hr hb hz)
    | ((with_reducible refine load_row (o := ⟨some 8, _, _, _, _, _⟩) rfl _ _ rfl w.heap.size ?_ _ (bdC cp a n c) _ R4.out Try.underlying25 rfl ?_ ?_); (focus go_simp); (focus (exact LZS.out)))
    | (go_at_call 26; (with_reducible refine (HOW.out w4 B4.out).mono ?_); rintro x w5 ⟨a5, c5, rfl, hown, hb⟩; have O5 := Lib.hid hown; have Q5 := Lib.hid (Q4.out.below hb Q4.out.lt); have P5 := Lib.hid (P4.out.below hb P4.out.lt); have R5 := Lib.hid (R4.out.below hb R4.out.lt); have X5 := Lib.hid (X4.out.below hb X4.out.lt); have B5 := Lib.hid (B4.out.trans (hb.mono B4.out.size)); have S5 := Lib.hid hb.size; clear hown hb)
    | ((with_reducible refine alloc_row (o := ⟨some 6, _, _, _, _, _⟩) rfl _ rfl _ LZ.out ?_); intro w6 hr hb hz; have A6 := Lib.hid (show ApA w6 w4.heap.size w.heap.size w1.heap.size w2.heap.size w3.heap.size w5.heap.size (bdC cp a n c) (cmC cl sq kd id ep va vn vc sp nm nu by1 ti pa pn pc) (bdC 0 none 0 0) (resC 0 0 0 0 0) (bdC 0 none 0 0) (.slice a5 n c5) L from ⟨R5.out.below hb R5.out.lt, X5.out.below hb X5.out.lt, P5.out.below hb P5.out.lt, Q5.out.below hb Q5.out.lt, hr, O5.out.kept hb, ⟨S1.out, S2.out, S3.out, S4.out, S5.out⟩, (fun e => absurd (World.ownsRow.lt O5.out _ e).2 (Nat.lt_irrefl _))⟩); have B6 := Lib.hid (B5.out.trans (hb.mono B5.out.size)); clear hr hb hz)
    | ((with_reducible refine store_row (o := ⟨none, _, _, _, _, _⟩) rfl _ (.tmp 6) _ rfl w5.heap.size (bdC cp a5 n c5) ?_ ?_ 25 _ A6.out.r6 ?_ ?_ ?_ ?_); (focus go_simp); (focus (first | (go_simp; done) | (go_simp; rfl))); (focus (exact LZS.out)); (focus rfl); (focus (exact bd_one _ _ _ _)); intro w7 hr hu; have A7 := Lib.hid (A6.out.up6 hu hr); have B7 := Lib.hid (B6.out.trans (hu.below B5.out.size)); clear hr hu)
    | ((with_reducible refine load_row (o := ⟨some 10, _, _, _, _, _⟩) rfl _ _ rfl w1.heap.size ?_ _ (cmC cl sq kd id ep va vn vc sp nm nu by1 ti pa pn pc) _ A7.out.r3 Try.underlying31 rfl ?_ ?_); (focus go_simp); (focus (exact CZS.out)))
    | (go_at_call 27; (with_reducible refine (HSH.out w7).mono ?_); rintro x w8 ⟨rfl, hb⟩; have A8 := Lib.hid (A7.out.below hb); have B8 := Lib.hid (B7.out.trans (hb.mono B7.out.size)); clear hb))
  refine region_h (fun v => Below w8.heap.size w8 v) (by kernel_rfl) (by kernel_rfl) (Below.refl _ _).drew ?_
  obtain ⟨wd, hwd⟩ : ∃ z, w8.drew = z := ⟨_, rfl⟩
  have D8 : Hid (Below w8.heap.size w8 wd) := Lib.hid (by rw [← hwd]; exact (Below.refl _ _).drew)
  rw [hwd]
  clear hwd
  (refine h_read 0 rfl (by kernel_rfl) (by kernel_rfl) (h_free rfl) ?_ ?_ ?_; rotate_left; (focus (intro v hv; go_simp; rfl)); go_simp)
  (refine h_read 1 rfl (by kernel_rfl) (by kernel_rfl) (h_free rfl) ?_ ?_ ?_; rotate_left; (focus (intro v hv; obtain ⟨c0, c1⟩ := (A8.out.below hv).r2.k2; have c8 := (A8.out.below hv).r3.cm'.c8; go_simp; rfl)); go_simp)
  (refine h_read 3 rfl (by kernel_rfl) (by kernel_rfl) (h_free rfl) ?_ ?_ ?_; rotate_left; (focus (intro v hv; go_simp; rfl)); go_simp)
  (refine h_read 4 rfl (by kernel_rfl) (by kernel_rfl) (h_free rfl) ?_ ?_ ?_; rotate_left; (focus (intro v hv; obtain ⟨c0, c1⟩ := (A8.out.below hv).r2.k2; have c8 := (A8.out.below hv).r3.cm'.c8; go_simp; rfl)); go_simp)
  (refine h_call 2 rfl (by kernel_rfl) (h_free rfl) 29 ?_ ?_ ?_; rotate_left; (focus (go_simp; rfl)))
  refine (HCL.out wd (B8.out.trans (D8.out.mono B8.out.size))).mono ?_
  rintro x w9 ⟨a9, c9, rfl, hown, hb⟩
  have O9 := Lib.hid hown
  have D9 := Lib.hid (D8.out.trans (hb.mono D8.out.size))
  have D9W := Lib.hid hb.size
  clear hown hb
  refine ⟨_, rfl, D9.out, ?_⟩
  go_simp
  (refine h_call 5 rfl (by kernel_rfl) (h_free rfl) 30 ?_ ?_ ?_; rotate_left; (focus (go_simp; rfl)))
  refine (bdof nu w9).mono ?_
  rintro x w10 ⟨rfl, hr, hb⟩
  have K10 := Lib.hid hr
  have O10 := Lib.hid (O9.out.kept hb)
  have D10 := Lib.hid (D9.out.trans (hb.mono D9.out.size))
  have K10N := Lib.hid (show Value.ownBlock (.slice a9 n c9) ≠ some w9.heap.size from fun e => absurd (World.ownsRow.lt O9.out _ e).2 (Nat.lt_irrefl _))
  have SW := Lib.hid hb.size
  clear hr hb
  refine ⟨_, rfl, D10.out, ?_⟩
  go_simp
  (refine h_call 6 rfl (by kernel_rfl) (h_free rfl) 28 ?_ ?_ ?_; rotate_left; (focus (go_simp; rfl)))
  refine (shdel nu w9.heap.size wd.heap.size n (.slice a9 n c9) L w10 O10.out HL.out HF.out K10.out K10N.out (Nat.le_trans D9W.out SW.out)).mono ?_
  rintro x w11 ⟨v11, rfl, hown, -, hb⟩
  rw [HFF.out] at hown
  obtain ⟨a11, c11, rfl, -, -⟩ := hown.ls shOk HFfit.out
  rw [HFN.out] at hown ⊢
  have O11 := Lib.hid hown
  have D11 := Lib.hid (D10.out.trans (hb.mono D8.out.size))
  clear hown hb
  refine ⟨_, rfl, D11.out, ?_⟩
  go_simp
  (refine h_read 7 rfl (by kernel_rfl) (by kernel_rfl) (h_free rfl) ?_ ?_ ?_; rotate_left; (focus (intro v hv; go_simp; rfl)); go_simp)
  refine h_done (by kernel_rfl) ?_
  go_wp2_with fail
  have A11 := Lib.hid (A8.out.below D11.out)
  have B11 := Lib.hid (B8.out.trans (D11.out.mono B8.out.size))
  have SB := Lib.hid (show w4.heap.size ≤ wd.heap.size ∧ w5.heap.size < wd.heap.size from ⟨Nat.le_trans (Nat.le_trans S5.out (Nat.le_of_lt A8.out.r6.lt)) D8.out.size, Nat.lt_of_lt_of_le A8.out.r6.lt D8.out.size⟩)
  obtain ⟨bx, hbx⟩ : ∃ z, wd.heap.size = z := ⟨_, rfl⟩
  rw [hbx] at O11 SB
  clear D8 D9 D10 O9 O10 K10 K10N SW D9W hbx wd
  have HSZ := Lib.hid (fun w' (hb : Below w11.heap.size w11 w') => bdsizes a11 nF c11 F w' ((fin_bd O11.out HFN.out HFfit.out).mono shOk hb) (by have := HF4.out; omega))
  refine region_h (fun v => Below w11.heap.size w11 v) (by kernel_rfl) (by kernel_rfl) (Below.refl _ _).drew ?_
  obtain ⟨wd, hwd⟩ : ∃ z, w11.drew = z := ⟨_, rfl⟩
  have D12 : Hid (Below w11.heap.size w11 wd) := Lib.hid (by rw [← hwd]; exact (Below.refl _ _).drew)
  rw [hwd]
  clear hwd
  (refine h_read 0 rfl (by kernel_rfl) (by kernel_rfl) (h_free rfl) ?_ ?_ ?_; rotate_left; (focus (intro v hv; obtain ⟨c0, c1⟩ := (A11.out.below hv).r2.k2; have c9 := (A11.out.below hv).r3.cm'.c9; go_simp; rfl)); go_simp)
  (refine h_read 1 rfl (by kernel_rfl) (by kernel_rfl) (h_free rfl) ?_ ?_ ?_; rotate_left; (focus (intro v hv; obtain ⟨c0, c1⟩ := (A11.out.below hv).r2.k2; have c9 := (A11.out.below hv).r3.cm'.c9; go_simp; rfl)); go_simp)
  (refine h_read 2 rfl (by kernel_rfl) (by kernel_rfl) (h_free rfl) ?_ ?_ ?_; rotate_left; (focus (intro v hv; go_simp; rfl)); go_simp)
  (refine h_read 4 rfl (by kernel_rfl) (by kernel_rfl) (h_free rfl) ?_ ?_ ?_; rotate_left; (focus (intro v hv; obtain ⟨c0, c1⟩ := (A11.out.below hv).r2.k2; have c9 := (A11.out.below hv).r3.cm'.c9; go_simp; rfl)); go_simp)
  (refine h_read 5 rfl (by kernel_rfl) (by kernel_rfl) (h_free rfl) ?_ ?_ ?_; rotate_left; (focus (intro v hv; obtain ⟨c0, c1⟩ := (A11.out.below hv).r2.k2; have c9 := (A11.out.below hv).r3.cm'.c9; go_simp; rfl)); go_simp)
  (refine h_tc 3 6 rfl rfl (by kernel_rfl) ?_ 32 ?_ ?_ ?_ ?_; (focus (go_simp; done)); rotate_left; (focus (go_simp; rfl)))
  · refine (HSZ.out wd (D12.out)).mono ?_
    rintro x w13 ⟨v5, rfl, hl, hb⟩
    obtain ⟨a25, c25, rfl, hls5, -⟩ := sum_sl hl HFB.out nF HFNB.out
    have O13 := Lib.hid hl
    have D13 := Lib.hid (D12.out.trans (hb.mono D12.out.size))
    have BZ0 := Lib.hid hb.size
    clear hl hb hls5
    refine ⟨_, rfl, D13.out, ?_⟩
    go_simp
    (refine h_list 6 rfl (by kernel_rfl) ?_; intro K hK)
    refine bi1 (o := ⟨some 28, _, _, _, _, _⟩) rfl _ rfl by1 ?_ HBY.out ?_
    · first | (go_simp; done) | (go_simp; rfl)
    intro wz hs hb hz
    have SB1 := Lib.hid hs
    have OZ := Lib.hid (O13.out.kept hb)
    have DZ := Lib.hid (D13.out.trans (hb.mono D13.out.size))
    have BZ := Lib.hid (Nat.le_trans BZ0.out hb.size)
    have BZB := Lib.hid D12.out.size
    have SBZ := SB1
    obtain ⟨bz, hbz⟩ : ∃ z, wd.heap.size = z := ⟨_, rfl⟩
    rw [hbz] at OZ BZ BZB
    clear hs hb hz D13 O13 BZ0 SB1
    refine hK _ _ DZ.out ?_
    go_simp
    clear hbz
    have LB := Lib.hid (show Ls intE wz _ 1 1 [by1] from SBZ.out.ls (Nat.le_refl _) (by omega) (fun e => by cases e))
    clear SBZ
    (refine h_list 7 rfl (by kernel_rfl) ?_; intro K hK)
    refine append_ls intOk rfl _ _ rfl bz (.slice a25 nF c25) (F.map Sh.by') (by first | (go_simp; done) | (go_simp; rfl)) OZ.out _ 1 1 [by1] (by first | (go_simp; done) | (go_simp; rfl)) LB.out (by rw [HFNB.out]; have := HF4.out; omega) BZ.out ?_
    intro v7 wq hN hb _ _
    obtain ⟨a27, c27, rfl, -, hsl⟩ := sum_sl hN HFX.out (nF + 1) HFXN.out
    have SQ := Lib.hid hsl
    have DQ := Lib.hid (show Below w11.heap.size w11 wq from DZ.out.trans (hb.mono BZB.out))
    clear hN hb hsl
    refine hK _ _ DQ.out ?_
    go_simp
    (refine h_call 8 rfl (by kernel_rfl) (h_free rfl) 31 ?_ ?_ ?_; rotate_left; (focus (go_simp; rfl)))
    refine (lfit cp a27 (nF + 1) c27 (F.map Sh.by' ++ [by1]) wq SQ.out HT40.out (by have := HF4.out; omega)).mono ?_
    rw [HSUM.out]
    rintro x w' ⟨rfl, rfl⟩
    refine ⟨_, rfl, DQ.out, ?_⟩
    go_simp
    (refine h_read 9 rfl (by kernel_rfl) (by kernel_rfl) (h_free rfl) ?_ ?_ ?_; rotate_left; (focus (intro v hv; go_simp; rfl)); go_simp)
    refine h_done (by kernel_rfl) ?_
    have A12 := Lib.hid (A11.out.below DQ.out)
    have O12 := Lib.hid (O11.out.kept DQ.out)
    have B12 := Lib.hid (B11.out.trans (DQ.out.mono B11.out.size))
    go_wp2_with (first
      | ((with_reducible refine store_cell (o := ⟨none, _, _, _, _, _⟩) rfl _ (.tmp 35) _ rfl w5.heap.size 1 (.slice a11 nF c11) ?_ ?_ rfl rfl 25 _ A12.out.r6 ?_ ?_ ?_); (focus go_simp); (focus go_simp); (focus (kernel_rfl)); (focus (show 1 < 2; decide)); intro w14 hr hu; have A14 := Lib.hid ((A12.out.up6 (C := bdC cp a11 nF c11) hu hr).neu ((O12.out.upd hu (newer O12.out SB.out.2)).base SB.out.1) (newer O12.out SB.out.2)); have B14 := Lib.hid (B12.out.trans (hu.below B5.out.size)); have q9 := A14.out.r3.cm'.c9; clear hr hu))
    clear q9
    refine region_t (fun v => Below w14.heap.size w14 v) 11 (by kernel_rfl) (by kernel_rfl) (by kernel_rfl) (Below.refl _ _).drew ?_
    obtain ⟨wd, hwd⟩ : ∃ z, w14.drew = z := ⟨_, rfl⟩
    have D14 : Hid (Below w14.heap.size w14 wd) := Lib.hid (by rw [← hwd]; exact (Below.refl _ _).drew)
    rw [hwd]
    clear hwd
    have qb := built_sh nu by1
    (refine t_read 0 rfl (by kernel_rfl) (by kernel_rfl) (by kernel_rfl) (t_free rfl) ?_ ?_ ?_; rotate_left; (focus (intro v hv; go_simp; rfl)); go_simp)
    (refine t_read 1 rfl (by kernel_rfl) (by kernel_rfl) (by kernel_rfl) (t_free rfl) ?_ ?_ ?_; rotate_left; (focus (intro v hv; go_simp; rfl)); go_simp)
    (refine t_read 2 rfl (by kernel_rfl) (by kernel_rfl) (by kernel_rfl) (t_free rfl) ?_ ?_ ?_; rotate_left; (focus (intro v hv; have c8 := (A14.out.below hv).r3.cm'.c8; have c9 := (A14.out.below hv).r3.cm'.c9; go_simp; rfl)); go_simp)
    (refine t_read 3 rfl (by kernel_rfl) (by kernel_rfl) (by kernel_rfl) (t_free rfl) ?_ ?_ ?_; rotate_left; (focus (intro v hv; go_simp; rfl)); go_simp)
    (refine t_read 4 rfl (by kernel_rfl) (by kernel_rfl) (by kernel_rfl) (t_free rfl) ?_ ?_ ?_; rotate_left; (focus (intro v hv; have c8 := (A14.out.below hv).r3.cm'.c8; have c9 := (A14.out.below hv).r3.cm'.c9; go_simp; rfl)); go_simp)
    (refine t_read 5 rfl (by kernel_rfl) (by kernel_rfl) (by kernel_rfl) (t_free rfl) ?_ ?_ ?_; rotate_left; (focus (intro v hv; go_simp; rfl)); go_simp)
    (refine t_read 6 rfl (by kernel_rfl) (by kernel_rfl) (by kernel_rfl) (t_free rfl) ?_ ?_ ?_; rotate_left; (focus (intro v hv; go_simp; rfl)); go_simp)
    (refine t_read 7 rfl (by kernel_rfl) (by kernel_rfl) (by kernel_rfl) (t_free rfl) ?_ ?_ ?_; rotate_left; (focus (intro v hv; have c8 := (A14.out.below hv).r3.cm'.c8; have c9 := (A14.out.below hv).r3.cm'.c9; go_simp; rfl)); go_simp)
    (refine t_call 8 rfl (by kernel_rfl) rfl (t_free rfl) 34 ?_ ?_ ?_; rotate_left; (focus (go_simp; rfl)))
    refine (bdab nu wd).mono ?_
    rintro x w17 ⟨rfl, hr, hb⟩
    have K17 := Lib.hid hr
    have D17 := Lib.hid (D14.out.trans (hb.mono D14.out.size))
    clear hr hb
    refine ⟨_, rfl, D17.out, ?_⟩
    go_simp
    (refine t_call 9 rfl (by kernel_rfl) rfl (t_free rfl) 33 ?_ ?_ ?_; rotate_left; (focus (go_simp; rfl)))
    refine (shinsert nu wd.heap.size a11 nF c11 F ⟨nu, by1⟩ w17 ((fin_bd A14.out.o HFN.out HFfit.out).mono shOk D17.out) HSF.out K17.out (by have := HF4.out; omega)).mono ?_
    rintro x w18 ⟨v18, rfl, hown, hb⟩
    rw [HII.out] at hown
    obtain ⟨a18, c18, rfl, -, -⟩ := hown.ls shOk HIfit.out
    rw [HIN.out] at hown ⊢
    have O18 := Lib.hid hown
    have D18 := Lib.hid (D17.out.trans (hb.mono D17.out.size))
    have A18 := Lib.hid (A14.out.below D18.out)
    have B18 := Lib.hid (B14.out.trans (D18.out.mono B14.out.size))
    have SI := Lib.hid (show w4.heap.size ≤ w17.heap.size ∧ w5.heap.size < w17.heap.size from ⟨Nat.le_trans (Nat.le_trans S5.out (Nat.le_of_lt A14.out.r6.lt)) D17.out.size, Nat.lt_of_lt_of_le A14.out.r6.lt D17.out.size⟩)
    clear hown hb
    refine ⟨_, rfl, D18.out, ?_⟩
    go_simp
    (refine t_read 10 rfl (by kernel_rfl) (by kernel_rfl) (by kernel_rfl) (t_free rfl) ?_ ?_ ?_; rotate_left; (focus (intro v hv; go_simp; rfl)); go_simp)
    (refine t_last 11 rfl (by kernel_rfl) rfl (by kernel_rfl) (by kernel_rfl) ?_; intro K hK)
    refine store_cell rfl _ _ _ rfl w5.heap.size 1 (.slice a18 (nF + 1) c18) (by go_simp) (by go_simp) rfl rfl 25 _ A18.out.r6 (by kernel_rfl) (show 1 < 2 by decide) ?_
    intro w19 hr hu
    have A19 := Lib.hid ((A18.out.up6 (C := bdC cp a18 (nF + 1) c18) hu hr).neu ((O18.out.upd hu (newer O18.out SI.out.2)).base SI.out.1) (newer O18.out SI.out.2))
    have B19 := Lib.hid (B18.out.trans (hu.below B5.out.size))
    clear hr hu
    refine hK _ _ ?_
    go_simp
    go_wp2_with fail
    have LST := Lib.hid (fin_bd A19.out.o HIN.out HIfit.out)
    refine region_h (fun v => Row v w1.heap.size 31 (cmC cl sq kd id ep va vn vc sp nm nu by1 ti pa pn pc) ∧ Row v w5.heap.size 25 (bdC cp a18 (nF + 1) c18)) (by kernel_rfl) (by kernel_rfl) ⟨A19.out.r3.below (Below.refl _ _).drew A19.out.r3.lt, A19.out.r6.below (Below.refl _ _).drew A19.out.r6.lt⟩ ?_
    obtain ⟨wd, hwd⟩ : ∃ z, w19.drew = z := ⟨_, rfl⟩
    have E0 : Hid (Below w19.heap.size w19 wd) := Lib.hid (by rw [← hwd]; exact (Below.refl _ _).drew)
    rw [hwd]
    clear hwd
    (refine h_read 0 rfl (by kernel_rfl) (by kernel_rfl) (h_free rfl) ?_ ?_ ?_; rotate_left; (focus (intro v hv; refine run_cells 25 (.tmp 6) ?_ w5.heap.size 0 ?_ (bdC cp a18 (nF + 1) c18) _ (fun j' u' hj => by rw [Nat.zero_add, hv.2.cellV]; exact hj) Try.underlying25 rfl bd_size; (focus rfl); go_simp)); go_simp)
    (refine h_read 1 rfl (by kernel_rfl) (by kernel_rfl) (h_free rfl) ?_ ?_ ?_; rotate_left; (focus (intro v hv; refine run_cells 25 (.tmp 6) ?_ w5.heap.size 0 ?_ (bdC cp a18 (nF + 1) c18) _ (fun j' u' hj => by rw [Nat.zero_add, hv.2.cellV]; exact hj) Try.underlying25 rfl bd_size; (focus rfl); go_simp)); go_simp)
    (refine h_read 3 rfl (by kernel_rfl) (by kernel_rfl) (h_free rfl) ?_ ?_ ?_; rotate_left; (focus (intro v hv; have c9 := hv.1.cm'.c9; go_simp; rfl)); go_simp)
    (refine h_read 4 rfl (by kernel_rfl) (by kernel_rfl) (h_free rfl) ?_ ?_ ?_; rotate_left; (focus (intro v hv; have c9 := hv.1.cm'.c9; go_simp; rfl)); go_simp)
    (refine h_call 2 rfl (by kernel_rfl) (h_free rfl) 11 ?_ ?_ ?_; rotate_left; (focus (go_simp; rfl)))
    refine (pbtotal (.agg (bdC cp a18 (nF + 1) c18).toArray) ⟨cp, I⟩ wd ⟨a18, (nF + 1), c18, rfl, HC.out, LST.out.mono shOk E0.out⟩ (by rw [HIN.out]; have := HF4.out; omega)).mono ?_
    rintro x w20 ⟨rfl, hb⟩
    have E1 := Lib.hid (E0.out.trans (hb.mono E0.out.size))
    have A20 := Lib.hid (A19.out.below E1.out)
    have B20 := Lib.hid (B19.out.trans (E1.out.mono B19.out.size))
    clear hb
    refine ⟨_, rfl, ⟨A20.out.r3, A20.out.r6⟩, ?_⟩
    go_simp
    have qb := built_res2 (totV (I)) by1
    (refine h_read 5 rfl (by kernel_rfl) (by kernel_rfl) (h_free rfl) ?_ ?_ ?_; rotate_left; (focus (intro v hv; go_simp; rfl)); go_simp)
    (refine h_list 6 rfl (by kernel_rfl) ?_; intro K hK)
    refine store_row rfl _ _ _ rfl w2.heap.size (bdC cp a18 (nF + 1) c18) (by go_simp) (by first | (go_simp; done) | (go_simp; rfl)) 25 _ A20.out.r4 LZS.out rfl (bd_one _ _ _ _) ?_
    intro w21 hr hu
    have A21 := Lib.hid (A20.out.up4 hu hr)
    have B21 := Lib.hid (B20.out.trans (hu.below B2.out.size))
    clear hr hu
    refine hK _ _ ⟨A21.out.r3, A21.out.r6⟩ ?_
    go_simp
    (refine h_list 7 rfl (by kernel_rfl) ?_; intro K2 hK2)
    refine store_row rfl _ _ _ rfl w3.heap.size (resC 0 0 (totV (I)) by1 0) (by go_simp) (by first | (go_simp; done) | (go_simp; rfl)) 39 _ A21.out.r5 RZS.out rfl (res_one _ _ _ _ _) ?_
    intro w22 hr hu
    have A22 := Lib.hid (A21.out.up5 hu hr)
    have B22 := Lib.hid (B21.out.trans (hu.below B3.out.size))
    clear hr hu
    refine hK2 _ _ ⟨A22.out.r3, A22.out.r6⟩ ?_
    go_simp
    refine h_done (by kernel_rfl) ?_
    go_wp2_with fail
    exact bodyPost_ret (results_two rfl _ _ w2.heap.size 25 _ _ _ w3.heap.size 39 _ _ _ (by go_simp) A22.out.r4 Try.underlying25 rfl LZS.out (by go_simp) A22.out.r5 Try.underlying39 rfl RZS.out) rfl ⟨_, by first | done | rfl, ⟨a18, (nF + 1), c18, rfl, HC.out, fin_bd A22.out.o HIN.out HIfit.out, fin_nw A22.out.o B4.out.size⟩, B22.out⟩
  · intro K hK
    refine bi1 (o := ⟨some 28, _, _, _, _, _⟩) rfl _ rfl by1 ?_ HBY.out ?_
    · first | (go_simp; done) | (go_simp; rfl)
    intro w13 hs hb hz
    have SB1 := Lib.hid hs
    have D13 := Lib.hid (D12.out.trans (hb.mono D12.out.size))
    clear hs hb hz
    refine hK _ _ D13.out ?_
    go_simp
    (refine h_call 3 rfl (by kernel_rfl) (h_free rfl) 32 ?_ ?_ ?_; rotate_left; (focus (go_simp; rfl)))
    refine (HSZ.out w13 (D13.out)).mono ?_
    rintro x wz ⟨v5, rfl, hl, hb⟩
    obtain ⟨a25, c25, rfl, hls5, -⟩ := sum_sl hl HFB.out nF HFNB.out
    have OZ := Lib.hid hl
    have DZ := Lib.hid (D13.out.trans (hb.mono D13.out.size))
    have BZ := Lib.hid hb.size
    have BZB := Lib.hid D13.out.size
    have SBZ := Lib.hid (SB1.out.mono hb)
    obtain ⟨bz, hbz⟩ : ∃ z, w13.heap.size = z := ⟨_, rfl⟩
    rw [hbz] at OZ BZ BZB
    clear hl hb hls5 SB1
    refine ⟨_, rfl, DZ.out, ?_⟩
    go_simp
    clear hbz
    have LB := Lib.hid (show Ls intE wz _ 1 1 [by1] from SBZ.out.ls (Nat.le_refl _) (by omega) (fun e => by cases e))
    clear SBZ
    (refine h_list 7 rfl (by kernel_rfl) ?_; intro K hK)
    refine append_ls intOk rfl _ _ rfl bz (.slice a25 nF c25) (F.map Sh.by') (by first | (go_simp; done) | (go_simp; rfl)) OZ.out _ 1 1 [by1] (by first | (go_simp; done) | (go_simp; rfl)) LB.out (by rw [HFNB.out]; have := HF4.out; omega) BZ.out ?_
    intro v7 wq hN hb _ _
    obtain ⟨a27, c27, rfl, -, hsl⟩ := sum_sl hN HFX.out (nF + 1) HFXN.out
    have SQ := Lib.hid hsl
    have DQ := Lib.hid (show Below w11.heap.size w11 wq from DZ.out.trans (hb.mono BZB.out))
    clear hN hb hsl
    refine hK _ _ DQ.out ?_
    go_simp
    (refine h_call 8 rfl (by kernel_rfl) (h_free rfl) 31 ?_ ?_ ?_; rotate_left; (focus (go_simp; rfl)))
    refine (lfit cp a27 (nF + 1) c27 (F.map Sh.by' ++ [by1]) wq SQ.out HT40.out (by have := HF4.out; omega)).mono ?_
    rw [HSUM.out]
    rintro x w' ⟨rfl, rfl⟩
    refine ⟨_, rfl, DQ.out, ?_⟩
    go_simp
    (refine h_read 9 rfl (by kernel_rfl) (by kernel_rfl) (h_free rfl) ?_ ?_ ?_; rotate_left; (focus (intro v hv; go_simp; rfl)); go_simp)
    refine h_done (by kernel_rfl) ?_
    have A12 := Lib.hid (A11.out.below DQ.out)
    have O12 := Lib.hid (O11.out.kept DQ.out)
    have B12 := Lib.hid (B11.out.trans (DQ.out.mono B11.out.size))
    go_wp2_with (first
      | ((with_reducible refine store_cell (o := ⟨none, _, _, _, _, _⟩) rfl _ (.tmp 35) _ rfl w5.heap.size 1 (.slice a11 nF c11) ?_ ?_ rfl rfl 25 _ A12.out.r6 ?_ ?_ ?_); (focus go_simp); (focus go_simp); (focus (kernel_rfl)); (focus (show 1 < 2; decide)); intro w14 hr hu; have A14 := Lib.hid ((A12.out.up6 (C := bdC cp a11 nF c11) hu hr).neu ((O12.out.upd hu (newer O12.out SB.out.2)).base SB.out.1) (newer O12.out SB.out.2)); have B14 := Lib.hid (B12.out.trans (hu.below B5.out.size)); have q9 := A14.out.r3.cm'.c9; clear hr hu))
    clear q9
    refine region_t (fun v => Below w14.heap.size w14 v) 11 (by kernel_rfl) (by kernel_rfl) (by kernel_rfl) (Below.refl _ _).drew ?_
    obtain ⟨wd, hwd⟩ : ∃ z, w14.drew = z := ⟨_, rfl⟩
    have D14 : Hid (Below w14.heap.size w14 wd) := Lib.hid (by rw [← hwd]; exact (Below.refl _ _).drew)
    rw [hwd]
    clear hwd
    have qb := built_sh nu by1
    (refine t_read 0 rfl (by kernel_rfl) (by kernel_rfl) (by kernel_rfl) (t_free rfl) ?_ ?_ ?_; rotate_left; (focus (intro v hv; go_simp; rfl)); go_simp)
    (refine t_read 1 rfl (by kernel_rfl) (by kernel_rfl) (by kernel_rfl) (t_free rfl) ?_ ?_ ?_; rotate_left; (focus (intro v hv; go_simp; rfl)); go_simp)
    (refine t_read 2 rfl (by kernel_rfl) (by kernel_rfl) (by kernel_rfl) (t_free rfl) ?_ ?_ ?_; rotate_left; (focus (intro v hv; have c8 := (A14.out.below hv).r3.cm'.c8; have c9 := (A14.out.below hv).r3.cm'.c9; go_simp; rfl)); go_simp)
    (refine t_read 3 rfl (by kernel_rfl) (by kernel_rfl) (by kernel_rfl) (t_free rfl) ?_ ?_ ?_; rotate_left; (focus (intro v hv; go_simp; rfl)); go_simp)
    (refine t_read 4 rfl (by kernel_rfl) (by kernel_rfl) (by kernel_rfl) (t_free rfl) ?_ ?_ ?_; rotate_left; (focus (intro v hv; have c8 := (A14.out.below hv).r3.cm'.c8; have c9 := (A14.out.below hv).r3.cm'.c9; go_simp; rfl)); go_simp)
    (refine t_read 5 rfl (by kernel_rfl) (by kernel_rfl) (by kernel_rfl) (t_free rfl) ?_ ?_ ?_; rotate_left; (focus (intro v hv; go_simp; rfl)); go_simp)
    (refine t_read 6 rfl (by kernel_rfl) (by kernel_rfl) (by kernel_rfl) (t_free rfl) ?_ ?_ ?_; rotate_left; (focus (intro v hv; go_simp; rfl)); go_simp)
    (refine t_read 7 rfl (by kernel_rfl) (by kernel_rfl) (by kernel_rfl) (t_free rfl) ?_ ?_ ?_; rotate_left; (focus (intro v hv; have c8 := (A14.out.below hv).r3.cm'.c8; have c9 := (A14.out.below hv).r3.cm'.c9; go_simp; rfl)); go_simp)
    (refine t_call 8 rfl (by kernel_rfl) rfl (t_free rfl) 34 ?_ ?_ ?_; rotate_left; (focus (go_simp; rfl)))
    refine (bdab nu wd).mono ?_
    rintro x w17 ⟨rfl, hr, hb⟩
    have K17 := Lib.hid hr
    have D17 := Lib.hid (D14.out.trans (hb.mono D14.out.size))
    clear hr hb
    refine ⟨_, rfl, D17.out, ?_⟩
    go_simp
    (refine t_call 9 rfl (by kernel_rfl) rfl (t_free rfl) 33 ?_ ?_ ?_; rotate_left; (focus (go_simp; rfl)))
    refine (shinsert nu wd.heap.size a11 nF c11 F ⟨nu, by1⟩ w17 ((fin_bd A14.out.o HFN.out HFfit.out).mono shOk D17.out) HSF.out K17.out (by have := HF4.out; omega)).mono ?_
    rintro x w18 ⟨v18, rfl, hown, hb⟩
    rw [HII.out] at hown
    obtain ⟨a18, c18, rfl, -, -⟩ := hown.ls shOk HIfit.out
    rw [HIN.out] at hown ⊢
    have O18 := Lib.hid hown
    have D18 := Lib.hid (D17.out.trans (hb.mono D17.out.size))
    have A18 := Lib.hid (A14.out.below D18.out)
    have B18 := Lib.hid (B14.out.trans (D18.out.mono B14.out.size))
    have SI := Lib.hid (show w4.heap.size ≤ w17.heap.size ∧ w5.heap.size < w17.heap.size from ⟨Nat.le_trans (Nat.le_trans S5.out (Nat.le_of_lt A14.out.r6.lt)) D17.out.size, Nat.lt_of_lt_of_le A14.out.r6.lt D17.out.size⟩)
    clear hown hb
    refine ⟨_, rfl, D18.out, ?_⟩
    go_simp
    (refine t_read 10 rfl (by kernel_rfl) (by kernel_rfl) (by kernel_rfl) (t_free rfl) ?_ ?_ ?_; rotate_left; (focus (intro v hv; go_simp; rfl)); go_simp)
    (refine t_last 11 rfl (by kernel_rfl) rfl (by kernel_rfl) (by kernel_rfl) ?_; intro K hK)
    refine store_cell rfl _ _ _ rfl w5.heap.size 1 (.slice a18 (nF + 1) c18) (by go_simp) (by go_simp) rfl rfl 25 _ A18.out.r6 (by kernel_rfl) (show 1 < 2 by decide) ?_
    intro w19 hr hu
    have A19 := Lib.hid ((A18.out.up6 (C := bdC cp a18 (nF + 1) c18) hu hr).neu ((O18.out.upd hu (newer O18.out SI.out.2)).base SI.out.1) (newer O18.out SI.out.2))
    have B19 := Lib.hid (B18.out.trans (hu.below B5.out.size))
    clear hr hu
    refine hK _ _ ?_
    go_simp
    go_wp2_with fail
    have LST := Lib.hid (fin_bd A19.out.o HIN.out HIfit.out)
    refine region_h (fun v => Row v w1.heap.size 31 (cmC cl sq kd id ep va vn vc sp nm nu by1 ti pa pn pc) ∧ Row v w5.heap.size 25 (bdC cp a18 (nF + 1) c18)) (by kernel_rfl) (by kernel_rfl) ⟨A19.out.r3.below (Below.refl _ _).drew A19.out.r3.lt, A19.out.r6.below (Below.refl _ _).drew A19.out.r6.lt⟩ ?_
    obtain ⟨wd, hwd⟩ : ∃ z, w19.drew = z := ⟨_, rfl⟩
    have E0 : Hid (Below w19.heap.size w19 wd) := Lib.hid (by rw [← hwd]; exact (Below.refl _ _).drew)
    rw [hwd]
    clear hwd
    (refine h_read 0 rfl (by kernel_rfl) (by kernel_rfl) (h_free rfl) ?_ ?_ ?_; rotate_left; (focus (intro v hv; refine run_cells 25 (.tmp 6) ?_ w5.heap.size 0 ?_ (bdC cp a18 (nF + 1) c18) _ (fun j' u' hj => by rw [Nat.zero_add, hv.2.cellV]; exact hj) Try.underlying25 rfl bd_size; (focus rfl); go_simp)); go_simp)
    (refine h_read 1 rfl (by kernel_rfl) (by kernel_rfl) (h_free rfl) ?_ ?_ ?_; rotate_left; (focus (intro v hv; refine run_cells 25 (.tmp 6) ?_ w5.heap.size 0 ?_ (bdC cp a18 (nF + 1) c18) _ (fun j' u' hj => by rw [Nat.zero_add, hv.2.cellV]; exact hj) Try.underlying25 rfl bd_size; (focus rfl); go_simp)); go_simp)
    (refine h_read 3 rfl (by kernel_rfl) (by kernel_rfl) (h_free rfl) ?_ ?_ ?_; rotate_left; (focus (intro v hv; have c9 := hv.1.cm'.c9; go_simp; rfl)); go_simp)
    (refine h_read 4 rfl (by kernel_rfl) (by kernel_rfl) (h_free rfl) ?_ ?_ ?_; rotate_left; (focus (intro v hv; have c9 := hv.1.cm'.c9; go_simp; rfl)); go_simp)
    (refine h_call 2 rfl (by kernel_rfl) (h_free rfl) 11 ?_ ?_ ?_; rotate_left; (focus (go_simp; rfl)))
    refine (pbtotal (.agg (bdC cp a18 (nF + 1) c18).toArray) ⟨cp, I⟩ wd ⟨a18, (nF + 1), c18, rfl, HC.out, LST.out.mono shOk E0.out⟩ (by rw [HIN.out]; have := HF4.out; omega)).mono ?_
    rintro x w20 ⟨rfl, hb⟩
    have E1 := Lib.hid (E0.out.trans (hb.mono E0.out.size))
    have A20 := Lib.hid (A19.out.below E1.out)
    have B20 := Lib.hid (B19.out.trans (E1.out.mono B19.out.size))
    clear hb
    refine ⟨_, rfl, ⟨A20.out.r3, A20.out.r6⟩, ?_⟩
    go_simp
    have qb := built_res2 (totV (I)) by1
    (refine h_read 5 rfl (by kernel_rfl) (by kernel_rfl) (h_free rfl) ?_ ?_ ?_; rotate_left; (focus (intro v hv; go_simp; rfl)); go_simp)
    (refine h_list 6 rfl (by kernel_rfl) ?_; intro K hK)
    refine store_row rfl _ _ _ rfl w2.heap.size (bdC cp a18 (nF + 1) c18) (by go_simp) (by first | (go_simp; done) | (go_simp; rfl)) 25 _ A20.out.r4 LZS.out rfl (bd_one _ _ _ _) ?_
    intro w21 hr hu
    have A21 := Lib.hid (A20.out.up4 hu hr)
    have B21 := Lib.hid (B20.out.trans (hu.below B2.out.size))
    clear hr hu
    refine hK _ _ ⟨A21.out.r3, A21.out.r6⟩ ?_
    go_simp
    (refine h_list 7 rfl (by kernel_rfl) ?_; intro K2 hK2)
    refine store_row rfl _ _ _ rfl w3.heap.size (resC 0 0 (totV (I)) by1 0) (by go_simp) (by first | (go_simp; done) | (go_simp; rfl)) 39 _ A21.out.r5 RZS.out rfl (res_one _ _ _ _ _) ?_
    intro w22 hr hu
    have A22 := Lib.hid (A21.out.up5 hu hr)
    have B22 := Lib.hid (B21.out.trans (hu.below B3.out.size))
    clear hr hu
    refine hK2 _ _ ⟨A22.out.r3, A22.out.r6⟩ ?_
    go_simp
    refine h_done (by kernel_rfl) ?_
    go_wp2_with fail
    exact bodyPost_ret (results_two rfl _ _ w2.heap.size 25 _ _ _ w3.heap.size 39 _ _ _ (by go_simp) A22.out.r4 Try.underlying25 rfl LZS.out (by go_simp) A22.out.r5 Try.underlying39 rfl RZS.out) rfl ⟨_, by first | done | rfl, ⟨a18, (nF + 1), c18, rfl, HC.out, fin_bd A22.out.o HIN.out HIfit.out, fin_nw A22.out.o B4.out.size⟩, B22.out⟩
theorem pbapply (v : Value) (b : Bd) (x : CmX) (w : World) (h : BdV w v b) (hok : b.ok = true) (hx : x.fit w) : Calls Try.prog 9 #[v, .agg x.cells.toArray] w fun e w' => ∃ v', e = .returned (.tuple #[v', .agg (resC 0 (b.app x.m).2.1 (b.app x.m).2.2.1 (b.app x.m).2.2.2 0).toArray]) ∧ BdF w' w.heap.size v' (b.app x.m).1 ∧ Below w.heap.size w w' := by
  cases hg : gives x.m with
  | false => exact pbapplyA v b x w h hok hx hg
  | true =>
    by_cases hf : ((others b x.m.nu).map Sh.by' ++ [x.m.by']).sum ≤ b.cap
    · by_cases hb : 0 < x.m.by'
      · exact pbapplyD v b x w h hok hx hg hf hb
      · exact pbapplyC v b x w h hok hx hg hf hb
    · exact pbapplyB v b x w h hok hx hg hf
end Go.Proofs.Ytkmdbdieloimiaa.W
