/- LAYER 25 (board): Apply of the program. -/
import Derived.Test.YtkmdbdieloimiaaBdJ
set_option linter.unusedSimpArgs false
set_option linter.unusedVariables false
namespace Go.Proofs.Ytkmdbdieloimiaa.W
open Go Go.ChangeShapes Go.WideShapes Go.ChangeAt Go.RowKit
open Go.Proofs.Ytkmdbdieloimiaa.S

set_option maxRecDepth 100000 in
set_option maxHeartbeats 32000000 in
theorem pbapplyA (v : Value) (b : Bd) (x : CmX) (w : World) (h : BdV w v b) (hok : b.ok = true) (hx : x.fit w) (hgv : gives x.m = false) : Calls Try.prog 9 #[v, .agg x.cells.toArray] w fun e w' => ∃ v', e = .returned (.tuple #[v', .agg (resC 0 (b.app x.m).2.1 (b.app x.m).2.2.1 (b.app x.m).2.2.2 0).toArray]) ∧ BdF w' w.heap.size v' (b.app x.m).1 ∧ Below w.heap.size w w' := by
  obtain ⟨a, n, c, rfl, hc, hL⟩ := h
  obtain ⟨cp, L⟩ := b
  obtain ⟨⟨cl, sq, kd, id, ep, V, sp, nm, nu, by1, ti, PL⟩, va, vn, vc, pa, pn, pc⟩ := x
  have hn4 := bd_four hok
  have hoth := oth_t40 hok nu
  have hbyf : SI64 by1 := hx.by'
  have hnuf : SI64 nu := hx.nu
  dsimp only at hc hL hn4 hoth hgv ⊢
  rw [show Bd.app ⟨cp, L⟩ ⟨cl, sq, kd, id, ep, V, sp, nm, nu, by1, ti, PL⟩ = (⟨cp, L⟩, 1, 0, 0) from by unfold Bd.app; rw [if_pos hgv]]
  dsimp only
  have HC := Lib.hid hc
  have HL := Lib.hid hL.hlen
  have HF := Lib.hid (show ∀ x ∈ L, x.fit from hL.hfit)
  have hn2 : n ≤ 4 := by rw [← hL.hlen]; exact hn4
  have LZ := Lib.hid bd_zero
  have LZS := Lib.hid bd_size
  have RZ := Lib.hid res_zero
  have RZS := Lib.hid res_size
  have CZS := Lib.hid cm_size
  have HOW := Lib.hid (fun w' (hb : Below w.heap.size w w') => owboard cp a n c L w' (hL.mono shOk hb) (by omega))
  have HCL := Lib.hid (fun w' (hb : Below w.heap.size w w') => shclone a n c L w' (hL.mono shOk hb) (by omega))
  have HSH := Lib.hid (pbshares ⟨⟨cl, sq, kd, id, ep, V, sp, nm, nu, by1, ti, PL⟩, va, vn, vc, pa, pn, pc⟩)
  rw [show gives _ = false from hgv] at HSH
  clear hL hc hok hx hoth hgv hn4
  go_enter Try.func9, Try.ntmps9
  go_wp2_with (first
    | ((with_reducible refine box_row (o := ⟨some 2, _, _, _, _, _⟩) rfl _ _ rfl (bdC cp a n c) rfl ?_); intro w1 hr hb hz; have R1 := Lib.hid hr; have B1 := Lib.hid hb; have S1 := Lib.hid (show w.heap.size < w1.heap.size by omega); clear hr hb hz)
    | ((with_reducible refine box_row (o := ⟨some 3, _, _, _, _, _⟩) rfl _ _ rfl (cmC cl sq kd id ep va vn vc sp nm nu by1 ti pa pn pc) rfl ?_); intro w2 hr hb hz; have X2 := Lib.hid hr; have R2 := Lib.hid (R1.out.below hb R1.out.lt); have B2 := Lib.hid (B1.out.trans (hb.mono B1.out.size)); have S2 := Lib.hid (show w1.heap.size < w2.heap.size by omega); clear hr hb hz)
    | ((with_reducible refine alloc_row (o := ⟨some 4, _, _, _, _, _⟩) rfl _ rfl _ LZ.out ?_); intro w3 hr hb hz; have P3 := Lib.hid hr; have R3 := Lib.hid (R2.out.below hb R2.out.lt); have X3 := Lib.hid (X2.out.below hb X2.out.lt); have B3 := Lib.hid (B2.out.trans (hb.mono B2.out.size)); have S3 := Lib.hid (show w2.heap.size < w3.heap.size by omega); clear hr hb hz)
    | ((with_reducible refine alloc_row (o := ⟨some 5, _, _, _, _, _⟩) rfl _ rfl _ RZ.out ?_); intro w4 hr hb hz; have Q4 := Lib.hid hr; have P4 := Lib.hid (P3.out.below hb P3.out.lt); have R4 := Lib.hid (R3.out.below hb R3.out.lt); have X4 := Lib.hid (X3.out.below hb X3.out.lt); have B4 := Lib.hid (B3.out.trans (hb.mono B3.out.size)); have S4 := Lib.hid (show w3.heap.size < w4.heap.size by omega); clear hr hb hz)
    | ((with_reducible refine load_row (o := ⟨some 8, _, _, _, _, _⟩) rfl _ _ rfl w.heap.size ?_ _ (bdC cp a n c) _ R4.out Try.underlying25 rfl ?_ ?_); (focus go_simp); (focus (exact LZS.out)))
    | (go_at_call 26; (with_reducible refine (HOW.out w4 B4.out).mono ?_); rintro x w5 ⟨a5, c5, rfl, hown, hb⟩; have O5 := Lib.hid hown; have Q5 := Lib.hid (Q4.out.below hb Q4.out.lt); have P5 := Lib.hid (P4.out.below hb P4.out.lt); have R5 := Lib.hid (R4.out.below hb R4.out.lt); have X5 := Lib.hid (X4.out.below hb X4.out.lt); have B5 := Lib.hid (B4.out.trans (hb.mono B4.out.size)); have S5 := Lib.hid hb.size; clear hown hb)
    | ((with_reducible refine alloc_row (o := ⟨some 6, _, _, _, _, _⟩) rfl _ rfl _ LZ.out ?_); intro w6 hr hb hz; have A6 := Lib.hid (show ApA w6 w4.heap.size w.heap.size w1.heap.size w2.heap.size w3.heap.size w5.heap.size (bdC cp a n c) (cmC cl sq kd id ep va vn vc sp nm nu by1 ti pa pn pc) (bdC 0 none 0 0) (resC 0 0 0 0 0) (bdC 0 none 0 0) (.slice a5 n c5) L from ⟨R5.out.below hb R5.out.lt, X5.out.below hb X5.out.lt, P5.out.below hb P5.out.lt, Q5.out.below hb Q5.out.lt, hr, O5.out.kept hb, ⟨S1.out, S2.out, S3.out, S4.out, S5.out⟩, (fun e => absurd (World.ownsRow.lt O5.out _ e).2 (Nat.lt_irrefl _))⟩); have B6 := Lib.hid (B5.out.trans (hb.mono B5.out.size)); clear hr hb hz)
    | ((with_reducible refine store_row (o := ⟨none, _, _, _, _, _⟩) rfl _ (.tmp 6) _ rfl w5.heap.size (bdC cp a5 n c5) ?_ ?_ 25 _ A6.out.r6 ?_ ?_ ?_ ?_); (focus go_simp); (focus (first | (go_simp; done) | (go_simp; rfl))); (focus (exact LZS.out)); (focus rfl); (focus (exact bd_one _ _ _ _)); intro w7 hr hu; have A7 := Lib.hid (A6.out.up6 hu hr); have B7 := Lib.hid (B6.out.trans (hu.below B5.out.size)); clear hr hu)
    | ((with_reducible refine load_row (o := ⟨some 10, _, _, _, _, _⟩) rfl _ _ rfl w1.heap.size ?_ _ (cmC cl sq kd id ep va vn vc sp nm nu by1 ti pa pn pc) _ A7.out.r3 Try.underlying31 rfl ?_ ?_); (focus go_simp); (focus (exact CZS.out)))
    | (go_at_call 27; (with_reducible refine (HSH.out w7).mono ?_); rintro x w8 ⟨rfl, hb⟩; have A8 := Lib.hid (A7.out.below hb); have B8 := Lib.hid (B7.out.trans (hb.mono B7.out.size)); clear hb)
    | ((with_reducible refine load_row (o := ⟨some 13, _, _, _, _, _⟩) rfl _ _ rfl w5.heap.size ?_ _ (bdC cp a5 n c5) _ A8.out.r6 Try.underlying25 rfl ?_ ?_); (focus go_simp); (focus (exact LZS.out)))
    | ((with_reducible refine build_row (o := ⟨some 14, _, _, _, _, _⟩) rfl _ _ rfl (resC 0 1 0 0 0) ?_ ?_); (focus (go_simp; exact built_res1 1)))
    | ((with_reducible refine store_row (o := ⟨none, _, _, _, _, _⟩) rfl _ (.tmp 4) _ rfl w2.heap.size (bdC cp a5 n c5) ?_ ?_ 25 _ A8.out.r4 ?_ ?_ ?_ ?_); (focus go_simp); (focus (first | (go_simp; done) | (go_simp; rfl))); (focus (exact LZS.out)); (focus rfl); (focus (exact bd_one _ _ _ _)); intro w80 hr hu; have A80 := Lib.hid (A8.out.up4 hu hr); have B80 := Lib.hid (B8.out.trans (hu.below B2.out.size)); clear hr hu)
    | ((with_reducible refine store_row (o := ⟨none, _, _, _, _, _⟩) rfl _ (.tmp 5) _ rfl w3.heap.size (resC 0 1 0 0 0) ?_ ?_ 39 _ A80.out.r5 ?_ ?_ ?_ ?_); (focus go_simp); (focus (first | (go_simp; done) | (go_simp; rfl))); (focus (exact RZS.out)); (focus rfl); (focus (exact res_one _ _ _ _ _)); intro w81 hr hu; have A81 := Lib.hid (A80.out.up5 hu hr); have B81 := Lib.hid (B80.out.trans (hu.below B3.out.size)); clear hr hu))
  exact bodyPost_ret (results_two rfl _ _ w2.heap.size 25 _ _ _ w3.heap.size 39 _ _ _ (by go_simp) A81.out.r4 Try.underlying25 rfl LZS.out (by go_simp) A81.out.r5 Try.underlying39 rfl RZS.out) rfl ⟨_, by first | done | rfl, ⟨a5, n, c5, rfl, HC.out, fin_bd A81.out.o HL.out HF.out, fin_nw A81.out.o B4.out.size⟩, B81.out⟩
end Go.Proofs.Ytkmdbdieloimiaa.W
