/- LAYER 25 (board): the law BoardLives. -/
import Derived.Test.YtkmdbdieloimiaaBdR
import Derived.Test.YtkmdbdieloimiaaCmF
set_option linter.unusedSimpArgs false
set_option linter.unusedVariables false
namespace Go.Proofs.Ytkmdbdieloimiaa.W
open Go Go.ChangeShapes Go.WideShapes Go.ChangeAt Go.RowKit
open Go.Proofs.Ytkmdbdieloimiaa.S

/-- a command stays where a block that is younger is written -/
theorem cm_young {w0 w w' : World} {x : CmX} (h0 : x.fit w0) (h : x.fit w) (hu : Upd w w' w0.heap.size) : x.fit w' := by
  refine ⟨h.cl, h.sq, h.kd, h.id, h.ep, ?_, h.sp, h.nm, h.nu, h.by', h.ti, ?_⟩
  · exact (h.V.ls.young (fun hn b off e => Nat.ne_of_lt (h0.V.ls.older hn b off e)) hu (fun x hx => h.V.ls.hfit x hx)).cvs
  · exact h.P.young (fun hn b off e => Nat.ne_of_lt (h0.P.older hn b off e)) hu (fun x hx => h.P.hfit x hx)
set_option maxRecDepth 100000 in
set_option maxHeartbeats 64000000 in
theorem law_BoardLives (x0 : Int) (a : Option Addr) (n c : Nat) (X : List CmX) (w : World) (hx0 : (Lit.int .i64 x0).wf = true) (h : Ls cmE w a n c X) : Calls Try.prog 3 #[.int .i64 x0, .slice a n c] w fun e w' => e = .returned (.bool true) ∧ Below w.heap.size w w' := by
  have H := Lib.hid h
  have HL := Lib.hid h.hlen
  have hm := h.hmax
  have hle := h.hle
  have HX := Lib.hid (show SI64 x0 from bd hx0)
  have HCX := Lib.hid (show SI64 (capV x0) from ⟨by have := capV_in x0; omega, by have := capV_in x0; omega⟩)
  have LZ := Lib.hid bd_zero
  have LZS := Lib.hid bd_size
  have RZ := Lib.hid res_zero
  have RZS := Lib.hid res_size
  have CZ := Lib.hid cm_zero
  have CZS := Lib.hid cm_size
  clear h hx0
  go_enter Try.func3, Try.ntmps3
  go_wp2_with (first
    | (go_at_call 5; (with_reducible refine (pbstart x0 _ HX.out).mono ?_); rintro x w1 ⟨rfl, hb⟩; have B1 := Lib.hid hb; clear hb)
    | ((with_reducible refine alloc_row (o := ⟨some 5, _, _, _, _, _⟩) rfl _ rfl _ LZ.out ?_); intro w2 hr hb hz; have P2 := Lib.hid hr; have B2 := Lib.hid (B1.out.trans (hb.mono B1.out.size)); clear hr hb hz)
    | ((with_reducible refine store_row (o := ⟨none, _, _, _, _, _⟩) rfl _ (.tmp 5) _ rfl w1.heap.size (bdC (capV x0) none 0 0) ?_ ?_ 25 _ P2.out ?_ ?_ ?_ ?_); (focus go_simp); (focus (first | (go_simp; done) | (go_simp; rfl))); (focus (exact LZS.out)); (focus rfl); (focus (exact bd_one _ _ _ _)); intro w3 hr hu; have P3 := Lib.hid hr; have B3 := Lib.hid (B2.out.trans (hu.below B1.out.size)); clear hr hu))
  refine region_h (fun v => Below w3.heap.size w3 v) (by kernel_rfl) (by kernel_rfl) (Below.refl _ _).drew ?_
  obtain ⟨d0, hd0⟩ : ∃ z, w3.drew = z := ⟨_, rfl⟩
  have D0 : Hid (Below w3.heap.size w3 d0) := Lib.hid (by rw [← hd0]; exact (Below.refl _ _).drew)
  rw [hd0]
  clear hd0
  (refine h_read 0 rfl (by kernel_rfl) (by kernel_rfl) (h_free rfl) ?_ ?_ ?_; rotate_left; (focus (intro v hv; refine run_cells 25 (.tmp 5) ?_ w1.heap.size 0 ?_ (bdC (capV x0) none 0 0) _ (fun j' u' hj => by rw [hv.cell (p := ⟨w1.heap.size, 0 + j', none⟩) P3.out.lt, Nat.zero_add, P3.out.cellV]; exact hj) Try.underlying25 rfl bd_size; (focus rfl); go_simp)); go_simp)
  (refine h_read 1 rfl (by kernel_rfl) (by kernel_rfl) (h_free rfl) ?_ ?_ ?_; rotate_left; (focus (intro v hv; go_simp; rfl)); go_simp)
  (refine h_call 2 rfl (by kernel_rfl) (h_free rfl) 7 ?_ ?_ ?_; rotate_left; (focus (go_simp; rfl)))
  refine (zbstart x0 d0 HX.out).mono ?_
  rintro x w4 ⟨rfl, hb⟩
  have D4 := Lib.hid (D0.out.trans (hb.mono D0.out.size))
  clear hb
  refine ⟨_, rfl, D4.out, ?_⟩
  go_simp
  (refine h_call 3 rfl (by kernel_rfl) (h_free rfl) 6 ?_ ?_ ?_; rotate_left; (focus (go_simp; rfl)))
  refine (zbsame (.agg (bdC (capV x0) none 0 0).toArray) (.agg (bdC (capV x0) none 0 0).toArray) ⟨capV x0, []⟩ ⟨capV x0, []⟩ w4 (bdv HCX.out (Ls.nil _)) (bdv HCX.out (Ls.nil _)) true ⟨fun _ => rfl, fun _ => rfl⟩).mono ?_
  rintro x w5 ⟨rfl, hb⟩
  have D5 := Lib.hid (D4.out.trans (hb.mono D4.out.size))
  clear hb
  refine ⟨_, rfl, D5.out, ?_⟩
  go_simp
  (refine h_read 4 rfl (by kernel_rfl) (by kernel_rfl) (h_free rfl) ?_ ?_ ?_; rotate_left; (focus (intro v hv; go_simp; rfl)); go_simp)
  refine h_done (by kernel_rfl) ?_
  have P5 := Lib.hid (P3.out.below D5.out P3.out.lt)
  have B5 := Lib.hid (B3.out.trans (D5.out.mono B3.out.size))
  have OK0 := Lib.hid (start_ok x0)
  clear D0 D4 D5
  go_wp2_with fail
  go_loopw [19] (fun i wr => ∃ (k : Nat) (b : Bd) (a1 : Option Addr) (n1 c1 : Nat), i = .int .i64 (k : Int) ∧ k ≤ n ∧ Hid (b.ok = true) ∧ Hid (Row wr w1.heap.size 25 (bdC b.cap a1 n1 c1)) ∧ Hid (Ls shE wr a1 n1 c1 b.L) ∧ Hid (∀ y off, a1 = some ⟨y, off, none⟩ → y ≠ w1.heap.size) ∧ Hid (Below w.heap.size w wr)) (fun i _ => n - (intOf i).toNat)
  case atStart => exact ⟨0, ⟨capV x0, []⟩, none, 0, 0, rfl, Nat.zero_le _, OK0, P5, Lib.hid (Ls.nil _), Lib.hid (fun y off e => by cases e), B5⟩
  case round =>
    obtain ⟨k, b, a1, n1, c1, rfl, hk, OK, P, L1, HNE, B⟩ := hrel
    by_cases hlt : k < n
    · obtain ⟨lb, off, x, rfl, hx, hcell, hfx⟩ := H.out.at cmOk B.out k hlt
      have XC := Lib.hid hcell
      have FX := Lib.hid (show x.fit wr from hfx)
      have HFU := Lib.hid (fun u u' (h : x.fit u) (hu : Upd u u' wr.heap.size) => cm_young (show x.fit wr from hfx) h hu)
      have g1 : (0 : Int) ≤ (k : Int) := by omega
      have g2 : (k : Int) < (n : Int) := by omega
      have HFEW := Lib.hid (fun w' (h : x.fit w') => few23 x w' h)
      clear hx hcell hfx
      by_cases h30 : (30 : Int) ≤ (k : Int)
      · go_wp2_with (first
          | ((with_reducible refine load_cells (o := ⟨some 23, _, _, _, _, _⟩) rfl _ _ rfl lb (off + k * 12) ?_ x.cells _ XC.out Try.underlying31 rfl ?_ ?_); (focus go_simp); (focus (exact CZS.out)))
          | ((with_reducible refine alloc_row (o := ⟨some 7, _, _, _, _, _⟩) rfl _ rfl _ CZ.out ?_); intro w6 hr hb hz; have X6 := Lib.hid hr; have P6 := Lib.hid (P.out.below hb P.out.lt); have L6 := Lib.hid (L1.out.mono shOk hb); have B6 := Lib.hid (B.out.trans (hb.mono B.out.size)); have F6 := Lib.hid (FX.out.mono hb); clear hr hb hz)
          | ((with_reducible refine store_row (o := ⟨none, _, _, _, _, _⟩) rfl _ (.tmp 7) _ rfl wr.heap.size (x.cells) ?_ ?_ 31 _ X6.out ?_ ?_ ?_ ?_); (focus go_simp); (focus (first | (go_simp; done) | (go_simp; rfl))); (focus (exact CZS.out)); (focus rfl); (focus (exact cmOk.one x)); intro w7 hr hu; have X7 := Lib.hid hr; have P7 := Lib.hid (P6.out.upd hu (Nat.ne_of_lt P.out.lt)); have L7 := Lib.hid (L6.out.young (fun h y off e => Nat.ne_of_lt (L1.out.older h y off e)) hu (fun x hx => L1.out.hfit x hx)); have B7 := Lib.hid (B6.out.trans (hu.below B.out.size)); have F7 := Lib.hid (HFU.out w6 w7 F6.out hu); clear hr hu)
          | (go_at_call 13; (with_reducible refine (awake25 _).mono ?_); rintro z w9 ⟨rfl, hb⟩; have B9 := Lib.hid (B7.out.trans (hb.mono B7.out.size)); clear hb))
        go_ret
        exact ⟨by first | rfl | exact one (vbool (by simp)), B9.out⟩
      cases hfew : fewCm x.m with
      | false =>
        rw [hfew] at HFEW
        go_wp2_with (first
          | ((with_reducible refine load_cells (o := ⟨some 23, _, _, _, _, _⟩) rfl _ _ rfl lb (off + k * 12) ?_ x.cells _ XC.out Try.underlying31 rfl ?_ ?_); (focus go_simp); (focus (exact CZS.out)))
          | ((with_reducible refine alloc_row (o := ⟨some 7, _, _, _, _, _⟩) rfl _ rfl _ CZ.out ?_); intro w6 hr hb hz; have X6 := Lib.hid hr; have P6 := Lib.hid (P.out.below hb P.out.lt); have L6 := Lib.hid (L1.out.mono shOk hb); have B6 := Lib.hid (B.out.trans (hb.mono B.out.size)); have F6 := Lib.hid (FX.out.mono hb); clear hr hb hz)
          | ((with_reducible refine store_row (o := ⟨none, _, _, _, _, _⟩) rfl _ (.tmp 7) _ rfl wr.heap.size (x.cells) ?_ ?_ 31 _ X6.out ?_ ?_ ?_ ?_); (focus go_simp); (focus (first | (go_simp; done) | (go_simp; rfl))); (focus (exact CZS.out)); (focus rfl); (focus (exact cmOk.one x)); intro w7 hr hu; have X7 := Lib.hid hr; have P7 := Lib.hid (P6.out.upd hu (Nat.ne_of_lt P.out.lt)); have L7 := Lib.hid (L6.out.young (fun h y off e => Nat.ne_of_lt (L1.out.older h y off e)) hu (fun x hx => L1.out.hfit x hx)); have B7 := Lib.hid (B6.out.trans (hu.below B.out.size)); have F7 := Lib.hid (HFU.out w6 w7 F6.out hu); clear hr hu)
          | ((with_reducible refine load_rowg (o := ⟨some 27, _, _, _, _, _⟩) 2 false 26 rfl _ _ rfl wr.heap.size _ x.cells _ X7.out Try.underlying31 rfl ?_ ?_ ?_ ?_ ?_); (focus rfl); (focus (first | (go_simp; done) | (go_simp; rfl))); (focus go_simp); (focus (exact CZS.out)))
          | (go_at_call 8; (with_reducible refine (HFEW.out w7 F7.out).mono ?_); rintro z w8 ⟨rfl, hb⟩; have X8 := Lib.hid (X7.out.below hb X7.out.lt); have P8 := Lib.hid (P7.out.below hb P7.out.lt); have L8 := Lib.hid (L7.out.mono shOk hb); have B8 := Lib.hid (B7.out.trans (hb.mono B7.out.size)); have F8 := Lib.hid (F7.out.mono hb); clear hb)
          | (go_at_call 13; (with_reducible refine (awake25 _).mono ?_); rintro z w9 ⟨rfl, hb⟩; have B9 := Lib.hid (B8.out.trans (hb.mono B8.out.size)); clear hb))
        go_ret
        exact ⟨by first | rfl | exact one (vbool (by simp)), B9.out⟩
      | true =>
        rw [hfew] at HFEW
        have hap := app_ok OK.out x.m
        have hcap := app_cap b x.m
        have hcs : SI64 b.cap := by
          have h0 := OK.out
          unfold Bd.ok at h0
          simp only [Bool.and_eq_true, in64_iff] at h0
          exact ⟨by omega, by omega⟩
        have HBD := Lib.hid (fun w' (hl : Ls shE w' a1 n1 c1 b.L) => (bdv hcs hl : BdV w' (.agg (bdC b.cap a1 n1 c1).toArray) b))
        have HAP := Lib.hid (fun v w' (hv : BdV w' v b) (hx : x.fit w') => pbapply v b x w' hv OK.out hx)
        have HCP := Lib.hid (show SI64 (b.app x.m).1.cap by rw [hcap]; exact hcs)
        have HCK := Lib.hid (fun v w' (hv : BdV w' v (b.app x.m).1) => pbcheck v _ w' hv (by have := bd_four hap.1; omega))
        have HTO := Lib.hid (fun v w' (hv : BdV w' v (b.app x.m).1) => pbtotal v _ w' hv (by have := bd_four hap.1; omega))
        have HSA := Lib.hid (fun (he : (b.app x.m).1 = b) v v' w' (hv : BdV w' v (b.app x.m).1) (hv' : BdV w' v' b) => pbsame v v' _ b w' hv hv' true ⟨fun _ => he, fun _ => rfl⟩)
        obtain ⟨⟨⟨cp, L'⟩, cd, nu2, by2⟩, hR⟩ : ∃ r, b.app x.m = r := ⟨_, rfl⟩
        rw [hR] at hap HAP HCP HCK HTO HSA
        dsimp only at hap HAP HCP HCK HTO HSA
        obtain ⟨hok2, htot, hcode⟩ := hap
        rw [hok2] at HCK
        obtain ⟨tv, htv⟩ : ∃ z, totV L' = z := ⟨_, rfl⟩
        rw [htv] at htot HTO
        have gt : ¬ cp < tv := by omega
        have OK2 := Lib.hid hok2
        clear hok2 htot htv hR hcs hcap hfew
        obtain ⟨b2, hb2⟩ : ∃ z : Bd, (⟨cp, L'⟩ : Bd) = z := ⟨_, rfl⟩
        by_cases hcd : cd = 0
        · subst hcd
          clear HSA hcode
          subst hb2
          go_wp2_with (first
            | ((with_reducible refine load_cells (o := ⟨some 23, _, _, _, _, _⟩) rfl _ _ rfl lb (off + k * 12) ?_ x.cells _ XC.out Try.underlying31 rfl ?_ ?_); (focus go_simp); (focus (exact CZS.out)))
            | ((with_reducible refine alloc_row (o := ⟨some 7, _, _, _, _, _⟩) rfl _ rfl _ CZ.out ?_); intro w6 hr hb hz; have X6 := Lib.hid hr; have P6 := Lib.hid (P.out.below hb P.out.lt); have L6 := Lib.hid (L1.out.mono shOk hb); have B6 := Lib.hid (B.out.trans (hb.mono B.out.size)); have F6 := Lib.hid (FX.out.mono hb); clear hr hb hz)
            | ((with_reducible refine store_row (o := ⟨none, _, _, _, _, _⟩) rfl _ (.tmp 7) _ rfl wr.heap.size (x.cells) ?_ ?_ 31 _ X6.out ?_ ?_ ?_ ?_); (focus go_simp); (focus (first | (go_simp; done) | (go_simp; rfl))); (focus (exact CZS.out)); (focus rfl); (focus (exact cmOk.one x)); intro w7 hr hu; have X7 := Lib.hid hr; have P7 := Lib.hid (P6.out.upd hu (Nat.ne_of_lt P.out.lt)); have L7 := Lib.hid (L6.out.young (fun h y off e => Nat.ne_of_lt (L1.out.older h y off e)) hu (fun x hx => L1.out.hfit x hx)); have B7 := Lib.hid (B6.out.trans (hu.below B.out.size)); have F7 := Lib.hid (HFU.out w6 w7 F6.out hu); clear hr hu)
            | ((with_reducible refine load_rowg (o := ⟨some 27, _, _, _, _, _⟩) 2 false 26 rfl _ _ rfl wr.heap.size _ x.cells _ X7.out Try.underlying31 rfl ?_ ?_ ?_ ?_ ?_); (focus rfl); (focus (first | (go_simp; done) | (go_simp; rfl))); (focus go_simp); (focus (exact CZS.out)))
            | (go_at_call 8; (with_reducible refine (HFEW.out w7 F7.out).mono ?_); rintro z w8 ⟨rfl, hb⟩; have X8 := Lib.hid (X7.out.below hb X7.out.lt); have P8 := Lib.hid (P7.out.below hb P7.out.lt); have L8 := Lib.hid (L7.out.mono shOk hb); have B8 := Lib.hid (B7.out.trans (hb.mono B7.out.size)); have F8 := Lib.hid (F7.out.mono hb); clear hb)
            | ((with_reducible refine load_row (o := ⟨some 32, _, _, _, _, _⟩) rfl _ _ rfl w1.heap.size ?_ _ (bdC b.cap a1 n1 c1) _ P8.out Try.underlying25 rfl ?_ ?_); (focus go_simp); (focus (exact LZS.out)))
            | ((with_reducible refine load_row (o := ⟨some 33, _, _, _, _, _⟩) rfl _ _ rfl wr.heap.size ?_ _ x.cells _ X8.out Try.underlying31 rfl ?_ ?_); (focus go_simp); (focus (exact CZS.out)))
            | (go_at_call 9; (with_reducible refine (HAP.out (.agg (bdC b.cap a1 n1 c1).toArray) w8 (HBD.out w8 L8.out) F8.out).mono ?_); rintro z w15 ⟨v15, rfl, hv, hb⟩; obtain ⟨a16, n16, c16, rfl, hcp, hl16, hn16⟩ := hv; have N16 := Lib.hid hn16; have L16 := Lib.hid hl16; have P16 := Lib.hid (P8.out.below hb P8.out.lt); have L0A := Lib.hid (L8.out.mono shOk hb); have B16 := Lib.hid (B8.out.trans (hb.mono B8.out.size)); have SG := Lib.hid (show w1.heap.size < w8.heap.size from P8.out.lt); clear hcp hl16 hn16 hb)
            | ((with_reducible refine alloc_row (o := ⟨some 8, _, _, _, _, _⟩) rfl _ rfl _ LZ.out ?_); intro w17 hr hb hz; have T17 := Lib.hid hr; have P17 := Lib.hid (P16.out.below hb P16.out.lt); have L17 := Lib.hid (L16.out.mono shOk hb); have M17 := Lib.hid (L0A.out.mono shOk hb); have B17 := Lib.hid (B16.out.trans (hb.mono B16.out.size)); have S17 := Lib.hid (show w15.heap.size < w17.heap.size by omega); clear hr hb hz)
            | ((with_reducible refine alloc_row (o := ⟨some 9, _, _, _, _, _⟩) rfl _ rfl _ RZ.out ?_); intro w18 hr hb hz; have Q18 := Lib.hid hr; have T18 := Lib.hid (T17.out.below hb T17.out.lt); have P18 := Lib.hid (P17.out.below hb P17.out.lt); have L18 := Lib.hid (L17.out.mono shOk hb); have M18 := Lib.hid (M17.out.mono shOk hb); have B18 := Lib.hid (B17.out.trans (hb.mono B17.out.size)); clear hr hb hz)
            | ((with_reducible refine store_row (o := ⟨none, _, _, _, _, _⟩) rfl _ (.tmp 8) _ rfl w15.heap.size (bdC cp a16 n16 c16) ?_ ?_ 25 _ T18.out ?_ ?_ ?_ ?_); (focus go_simp); (focus (first | (go_simp; done) | (go_simp; rfl))); (focus (exact LZS.out)); (focus rfl); (focus (exact bd_one _ _ _ _)); intro w19 hr hu; have T19 := Lib.hid hr; have Q19 := Lib.hid (Q18.out.upd hu (Nat.ne_of_gt S17.out)); have P19 := Lib.hid (P18.out.upd hu (Nat.ne_of_lt P16.out.lt)); have L19 := Lib.hid (L18.out.young (fun h y off e => Nat.ne_of_lt (L16.out.older h y off e)) hu (fun x hx => L16.out.hfit x hx)); have M19 := Lib.hid (M18.out.young (fun h y off e => Nat.ne_of_lt (L0A.out.older h y off e)) hu (fun x hx => L0A.out.hfit x hx)); have B19 := Lib.hid (B18.out.trans (hu.below B16.out.size)); clear hr hu)
            | ((with_reducible refine store_row (o := ⟨none, _, _, _, _, _⟩) rfl _ (.tmp 9) _ rfl w17.heap.size (resC 0 0 nu2 by2 0) ?_ ?_ 39 _ Q19.out ?_ ?_ ?_ ?_); (focus go_simp); (focus (first | (go_simp; done) | (go_simp; rfl))); (focus (exact RZS.out)); (focus rfl); (focus (exact res_one _ _ _ _ _)); intro w20 hr hu; have Q20 := Lib.hid hr; have T20 := Lib.hid (T19.out.upd hu (Nat.ne_of_lt S17.out)); have P20 := Lib.hid (P19.out.upd hu (Nat.ne_of_lt (Nat.lt_trans P16.out.lt S17.out))); have L20 := Lib.hid (L19.out.young (fun h y off e => Nat.ne_of_lt (Nat.lt_trans (L16.out.older h y off e) S17.out)) hu (fun x hx => L16.out.hfit x hx)); have L0 := Lib.hid (M19.out.young (fun h y off e => Nat.ne_of_lt (Nat.lt_trans (L0A.out.older h y off e) S17.out)) hu (fun x hx => L0A.out.hfit x hx)); have B20 := Lib.hid (B19.out.trans (hu.below B17.out.size)); clear hr hu))
          refine region_h (fun v => Below w20.heap.size w20 v) (by kernel_rfl) (by kernel_rfl) (Below.refl _ _).drew ?_
          obtain ⟨d0, hd0⟩ : ∃ z, w20.drew = z := ⟨_, rfl⟩
          have D0 : Hid (Below w20.heap.size w20 d0) := Lib.hid (by rw [← hd0]; exact (Below.refl _ _).drew)
          rw [hd0]
          clear hd0
          (refine h_read 0 rfl (by kernel_rfl) (by kernel_rfl) (h_free rfl) ?_ ?_ ?_; rotate_left; (focus (intro v hv; refine run_cells 25 (.tmp 8) ?_ w15.heap.size 0 ?_ (bdC cp a16 n16 c16) _ (fun j' u' hj => by rw [hv.cell (p := ⟨w15.heap.size, 0 + j', none⟩) T20.out.lt, Nat.zero_add, T20.out.cellV]; exact hj) Try.underlying25 rfl bd_size; (focus rfl); go_simp)); go_simp)
          (refine h_call 1 rfl (by kernel_rfl) (h_free rfl) 10 ?_ ?_ ?_; rotate_left; (focus (go_simp; rfl)))
          refine (HCK.out (.agg (bdC cp a16 n16 c16).toArray) d0 (bdv HCP.out (L20.out.mono shOk D0.out))).mono ?_
          rintro z d1 ⟨rfl, hb⟩
          have D1 := Lib.hid (D0.out.trans (hb.mono D0.out.size))
          clear hb
          refine ⟨_, rfl, D1.out, ?_⟩
          go_simp
          (refine h_read 2 rfl (by kernel_rfl) (by kernel_rfl) (h_free rfl) ?_ ?_ ?_; rotate_left; (focus (intro v hv; go_simp; rfl)); go_simp)
          (refine h_read 3 rfl (by kernel_rfl) (by kernel_rfl) (h_free rfl) ?_ ?_ ?_; rotate_left; (focus (intro v hv; go_simp; rfl)); go_simp)
          (refine h_read 4 rfl (by kernel_rfl) (by kernel_rfl) ?_ ?_ ?_ ?_; (focus (go_simp; done)); rotate_left; (focus (intro v hv; refine run_cells 25 (.tmp 8) ?_ w15.heap.size 0 ?_ (bdC cp a16 n16 c16) _ (fun j' u' hj => by rw [hv.cell (p := ⟨w15.heap.size, 0 + j', none⟩) T20.out.lt, Nat.zero_add, T20.out.cellV]; exact hj) Try.underlying25 rfl bd_size; (focus rfl); go_simp)); go_simp)
          (refine h_read 6 rfl (by kernel_rfl) (by kernel_rfl) ?_ ?_ ?_ ?_; (focus (go_simp; done)); rotate_left; (focus (intro v hv; go_simp; rfl)); go_simp)
          (refine h_read 7 rfl (by kernel_rfl) (by kernel_rfl) ?_ ?_ ?_ ?_; (focus (go_simp; done)); rotate_left; (focus (intro v hv; obtain ⟨c0, c1⟩ := (T20.out.below hv T20.out.lt).k2; obtain ⟨q1, q2⟩ := (Q20.out.below hv Q20.out.lt).res; go_simp; rfl)); go_simp)
          (refine h_call 5 rfl (by kernel_rfl) ?_ 11 ?_ ?_ ?_; (focus (go_simp; done)); rotate_left; (focus (go_simp; rfl)))
          refine (HTO.out (.agg (bdC cp a16 n16 c16).toArray) d1 (bdv HCP.out (L20.out.mono shOk D1.out))).mono ?_
          rintro z d2 ⟨rfl, hb⟩
          have D2 := Lib.hid (D1.out.trans (hb.mono D1.out.size))
          clear hb
          refine ⟨_, rfl, D2.out, ?_⟩
          go_simp
          (refine h_read 8 rfl (by kernel_rfl) (by kernel_rfl) ?_ ?_ ?_ ?_; (focus (go_simp; done)); rotate_left; (focus (intro v hv; go_simp; rfl)); go_simp)
          (refine h_read 9 rfl (by kernel_rfl) (by kernel_rfl) (h_free rfl) ?_ ?_ ?_; rotate_left; (focus (intro v hv; go_simp; rfl)); go_simp)
          (refine h_read 10 rfl (by kernel_rfl) (by kernel_rfl) (h_free rfl) ?_ ?_ ?_; rotate_left; (focus (intro v hv; go_simp; rfl)); go_simp)
          (refine h_read 11 rfl (by kernel_rfl) (by kernel_rfl) ?_ ?_ ?_ ?_; (focus (go_simp; done)); rotate_left; (focus (intro v hv; go_simp; rfl)); go_simp)
          (refine h_read 12 rfl (by kernel_rfl) (by kernel_rfl) ?_ ?_ ?_ ?_; (focus (go_simp; done)); rotate_left; (focus (intro v hv; obtain ⟨c0, c1⟩ := (T20.out.below hv T20.out.lt).k2; obtain ⟨q1, q2⟩ := (Q20.out.below hv Q20.out.lt).res; go_simp; rfl)); go_simp)
          (refine h_read 13 rfl (by kernel_rfl) (by kernel_rfl) ?_ ?_ ?_ ?_; (focus (go_simp; done)); rotate_left; (focus (intro v hv; go_simp; rfl)); go_simp)
          (refine h_read 14 rfl (by kernel_rfl) (by kernel_rfl) ?_ ?_ ?_ ?_; (focus (go_simp; done)); rotate_left; (focus (intro v hv; go_simp; rfl)); go_simp)
          (refine h_skip 15 rfl (by kernel_rfl) (by kernel_rfl) ?_ ?_; (focus (go_simp; first | done | (intro h; cases h) | simp)); go_simp)
          (refine h_skip 16 rfl (by kernel_rfl) (by kernel_rfl) ?_ ?_; (focus (go_simp; first | done | (intro h; cases h) | simp)); go_simp)
          (refine h_skip 17 rfl (by kernel_rfl) (by kernel_rfl) ?_ ?_; (focus (go_simp; first | done | (intro h; cases h) | simp)); go_simp)
          (refine h_skip 18 rfl (by kernel_rfl) (by kernel_rfl) ?_ ?_; (focus (go_simp; first | done | (intro h; cases h) | simp)); go_simp)
          (refine h_read 19 rfl (by kernel_rfl) (by kernel_rfl) ?_ ?_ ?_ ?_; (focus (go_simp; done)); rotate_left; (focus (intro v hv; go_simp; rfl)); go_simp)
          (refine h_read 20 rfl (by kernel_rfl) (by kernel_rfl) (h_free rfl) ?_ ?_ ?_; rotate_left; (focus (intro v hv; go_simp; rfl)); go_simp)
          refine h_done (by kernel_rfl) ?_
          have TE := Lib.hid (T20.out.below D2.out T20.out.lt)
          have PE := Lib.hid (P20.out.below D2.out P20.out.lt)
          have LE := Lib.hid (L20.out.mono shOk D2.out)
          have BE := Lib.hid (B20.out.trans (D2.out.mono B20.out.size))
          have HNE2 := Lib.hid (show ∀ y off, a16 = some ⟨y, off, none⟩ → y ≠ w1.heap.size from fun y off e => Nat.ne_of_gt (Nat.lt_of_lt_of_le SG.out (N16.out y off e)))
          go_wp2_with (first
            | ((with_reducible refine load_row (o := ⟨some 58, _, _, _, _, _⟩) rfl _ _ rfl w15.heap.size ?_ _ (bdC cp a16 n16 c16) _ TE.out Try.underlying25 rfl ?_ ?_); (focus go_simp); (focus (exact LZS.out)))
            | ((with_reducible refine store_row (o := ⟨none, _, _, _, _, _⟩) rfl _ (.tmp 5) _ rfl w1.heap.size (bdC cp a16 n16 c16) ?_ ?_ 25 _ PE.out ?_ ?_ ?_ ?_); (focus go_simp); (focus (first | (go_simp; done) | (go_simp; rfl))); (focus (exact LZS.out)); (focus rfl); (focus (exact bd_one _ _ _ _)); intro w30 hr hu; have P30 := Lib.hid hr; have L30 := Lib.hid (LE.out.young (fun h x off e => HNE2.out x off e) hu (fun x hx => LE.out.hfit x hx)); have B30 := Lib.hid (BE.out.trans (hu.below B1.out.size)); clear hr hu))
          go_roundw
          case rel => exact ⟨k + 1, ⟨cp, L'⟩, a16, n16, c16, vint (by omega), by omega, OK2, P30, L30, HNE2, B30⟩
          case measure => simp [intOf]; omega
        · have he : (⟨cp, L'⟩ : Bd) = b := hcode.resolve_left hcd
          have HSA := Lib.hid (HSA.out he)
          have hcd2 : (cd != 0) = true := by simpa using hcd
          clear hcode he hcd
          subst hb2
          go_wp2_with (first
            | ((with_reducible refine load_cells (o := ⟨some 23, _, _, _, _, _⟩) rfl _ _ rfl lb (off + k * 12) ?_ x.cells _ XC.out Try.underlying31 rfl ?_ ?_); (focus go_simp); (focus (exact CZS.out)))
            | ((with_reducible refine alloc_row (o := ⟨some 7, _, _, _, _, _⟩) rfl _ rfl _ CZ.out ?_); intro w6 hr hb hz; have X6 := Lib.hid hr; have P6 := Lib.hid (P.out.below hb P.out.lt); have L6 := Lib.hid (L1.out.mono shOk hb); have B6 := Lib.hid (B.out.trans (hb.mono B.out.size)); have F6 := Lib.hid (FX.out.mono hb); clear hr hb hz)
            | ((with_reducible refine store_row (o := ⟨none, _, _, _, _, _⟩) rfl _ (.tmp 7) _ rfl wr.heap.size (x.cells) ?_ ?_ 31 _ X6.out ?_ ?_ ?_ ?_); (focus go_simp); (focus (first | (go_simp; done) | (go_simp; rfl))); (focus (exact CZS.out)); (focus rfl); (focus (exact cmOk.one x)); intro w7 hr hu; have X7 := Lib.hid hr; have P7 := Lib.hid (P6.out.upd hu (Nat.ne_of_lt P.out.lt)); have L7 := Lib.hid (L6.out.young (fun h y off e => Nat.ne_of_lt (L1.out.older h y off e)) hu (fun x hx => L1.out.hfit x hx)); have B7 := Lib.hid (B6.out.trans (hu.below B.out.size)); have F7 := Lib.hid (HFU.out w6 w7 F6.out hu); clear hr hu)
            | ((with_reducible refine load_rowg (o := ⟨some 27, _, _, _, _, _⟩) 2 false 26 rfl _ _ rfl wr.heap.size _ x.cells _ X7.out Try.underlying31 rfl ?_ ?_ ?_ ?_ ?_); (focus rfl); (focus (first | (go_simp; done) | (go_simp; rfl))); (focus go_simp); (focus (exact CZS.out)))
            | (go_at_call 8; (with_reducible refine (HFEW.out w7 F7.out).mono ?_); rintro z w8 ⟨rfl, hb⟩; have X8 := Lib.hid (X7.out.below hb X7.out.lt); have P8 := Lib.hid (P7.out.below hb P7.out.lt); have L8 := Lib.hid (L7.out.mono shOk hb); have B8 := Lib.hid (B7.out.trans (hb.mono B7.out.size)); have F8 := Lib.hid (F7.out.mono hb); clear hb)
            | ((with_reducible refine load_row (o := ⟨some 32, _, _, _, _, _⟩) rfl _ _ rfl w1.heap.size ?_ _ (bdC b.cap a1 n1 c1) _ P8.out Try.underlying25 rfl ?_ ?_); (focus go_simp); (focus (exact LZS.out)))
            | ((with_reducible refine load_row (o := ⟨some 33, _, _, _, _, _⟩) rfl _ _ rfl wr.heap.size ?_ _ x.cells _ X8.out Try.underlying31 rfl ?_ ?_); (focus go_simp); (focus (exact CZS.out)))
            | (go_at_call 9; (with_reducible refine (HAP.out (.agg (bdC b.cap a1 n1 c1).toArray) w8 (HBD.out w8 L8.out) F8.out).mono ?_); rintro z w15 ⟨v15, rfl, hv, hb⟩; obtain ⟨a16, n16, c16, rfl, hcp, hl16, hn16⟩ := hv; have N16 := Lib.hid hn16; have L16 := Lib.hid hl16; have P16 := Lib.hid (P8.out.below hb P8.out.lt); have L0A := Lib.hid (L8.out.mono shOk hb); have B16 := Lib.hid (B8.out.trans (hb.mono B8.out.size)); have SG := Lib.hid (show w1.heap.size < w8.heap.size from P8.out.lt); clear hcp hl16 hn16 hb)
            | ((with_reducible refine alloc_row (o := ⟨some 8, _, _, _, _, _⟩) rfl _ rfl _ LZ.out ?_); intro w17 hr hb hz; have T17 := Lib.hid hr; have P17 := Lib.hid (P16.out.below hb P16.out.lt); have L17 := Lib.hid (L16.out.mono shOk hb); have M17 := Lib.hid (L0A.out.mono shOk hb); have B17 := Lib.hid (B16.out.trans (hb.mono B16.out.size)); have S17 := Lib.hid (show w15.heap.size < w17.heap.size by omega); clear hr hb hz)
            | ((with_reducible refine alloc_row (o := ⟨some 9, _, _, _, _, _⟩) rfl _ rfl _ RZ.out ?_); intro w18 hr hb hz; have Q18 := Lib.hid hr; have T18 := Lib.hid (T17.out.below hb T17.out.lt); have P18 := Lib.hid (P17.out.below hb P17.out.lt); have L18 := Lib.hid (L17.out.mono shOk hb); have M18 := Lib.hid (M17.out.mono shOk hb); have B18 := Lib.hid (B17.out.trans (hb.mono B17.out.size)); clear hr hb hz)
            | ((with_reducible refine store_row (o := ⟨none, _, _, _, _, _⟩) rfl _ (.tmp 8) _ rfl w15.heap.size (bdC cp a16 n16 c16) ?_ ?_ 25 _ T18.out ?_ ?_ ?_ ?_); (focus go_simp); (focus (first | (go_simp; done) | (go_simp; rfl))); (focus (exact LZS.out)); (focus rfl); (focus (exact bd_one _ _ _ _)); intro w19 hr hu; have T19 := Lib.hid hr; have Q19 := Lib.hid (Q18.out.upd hu (Nat.ne_of_gt S17.out)); have P19 := Lib.hid (P18.out.upd hu (Nat.ne_of_lt P16.out.lt)); have L19 := Lib.hid (L18.out.young (fun h y off e => Nat.ne_of_lt (L16.out.older h y off e)) hu (fun x hx => L16.out.hfit x hx)); have M19 := Lib.hid (M18.out.young (fun h y off e => Nat.ne_of_lt (L0A.out.older h y off e)) hu (fun x hx => L0A.out.hfit x hx)); have B19 := Lib.hid (B18.out.trans (hu.below B16.out.size)); clear hr hu)
            | ((with_reducible refine store_row (o := ⟨none, _, _, _, _, _⟩) rfl _ (.tmp 9) _ rfl w17.heap.size (resC 0 cd nu2 by2 0) ?_ ?_ 39 _ Q19.out ?_ ?_ ?_ ?_); (focus go_simp); (focus (first | (go_simp; done) | (go_simp; rfl))); (focus (exact RZS.out)); (focus rfl); (focus (exact res_one _ _ _ _ _)); intro w20 hr hu; have Q20 := Lib.hid hr; have T20 := Lib.hid (T19.out.upd hu (Nat.ne_of_lt S17.out)); have P20 := Lib.hid (P19.out.upd hu (Nat.ne_of_lt (Nat.lt_trans P16.out.lt S17.out))); have L20 := Lib.hid (L19.out.young (fun h y off e => Nat.ne_of_lt (Nat.lt_trans (L16.out.older h y off e) S17.out)) hu (fun x hx => L16.out.hfit x hx)); have L0 := Lib.hid (M19.out.young (fun h y off e => Nat.ne_of_lt (Nat.lt_trans (L0A.out.older h y off e) S17.out)) hu (fun x hx => L0A.out.hfit x hx)); have B20 := Lib.hid (B19.out.trans (hu.below B17.out.size)); clear hr hu))
          refine region_h (fun v => Below w20.heap.size w20 v) (by kernel_rfl) (by kernel_rfl) (Below.refl _ _).drew ?_
          obtain ⟨d0, hd0⟩ : ∃ z, w20.drew = z := ⟨_, rfl⟩
          have D0 : Hid (Below w20.heap.size w20 d0) := Lib.hid (by rw [← hd0]; exact (Below.refl _ _).drew)
          rw [hd0]
          clear hd0
          (refine h_read 0 rfl (by kernel_rfl) (by kernel_rfl) (h_free rfl) ?_ ?_ ?_; rotate_left; (focus (intro v hv; refine run_cells 25 (.tmp 8) ?_ w15.heap.size 0 ?_ (bdC cp a16 n16 c16) _ (fun j' u' hj => by rw [hv.cell (p := ⟨w15.heap.size, 0 + j', none⟩) T20.out.lt, Nat.zero_add, T20.out.cellV]; exact hj) Try.underlying25 rfl bd_size; (focus rfl); go_simp)); go_simp)
          (refine h_call 1 rfl (by kernel_rfl) (h_free rfl) 10 ?_ ?_ ?_; rotate_left; (focus (go_simp; rfl)))
          refine (HCK.out (.agg (bdC cp a16 n16 c16).toArray) d0 (bdv HCP.out (L20.out.mono shOk D0.out))).mono ?_
          rintro z d1 ⟨rfl, hb⟩
          have D1 := Lib.hid (D0.out.trans (hb.mono D0.out.size))
          clear hb
          refine ⟨_, rfl, D1.out, ?_⟩
          go_simp
          (refine h_read 2 rfl (by kernel_rfl) (by kernel_rfl) (h_free rfl) ?_ ?_ ?_; rotate_left; (focus (intro v hv; go_simp; rfl)); go_simp)
          (refine h_read 3 rfl (by kernel_rfl) (by kernel_rfl) (h_free rfl) ?_ ?_ ?_; rotate_left; (focus (intro v hv; go_simp; rfl)); go_simp)
          (refine h_read 4 rfl (by kernel_rfl) (by kernel_rfl) ?_ ?_ ?_ ?_; (focus (go_simp; done)); rotate_left; (focus (intro v hv; refine run_cells 25 (.tmp 8) ?_ w15.heap.size 0 ?_ (bdC cp a16 n16 c16) _ (fun j' u' hj => by rw [hv.cell (p := ⟨w15.heap.size, 0 + j', none⟩) T20.out.lt, Nat.zero_add, T20.out.cellV]; exact hj) Try.underlying25 rfl bd_size; (focus rfl); go_simp)); go_simp)
          (refine h_read 6 rfl (by kernel_rfl) (by kernel_rfl) ?_ ?_ ?_ ?_; (focus (go_simp; done)); rotate_left; (focus (intro v hv; go_simp; rfl)); go_simp)
          (refine h_read 7 rfl (by kernel_rfl) (by kernel_rfl) ?_ ?_ ?_ ?_; (focus (go_simp; done)); rotate_left; (focus (intro v hv; obtain ⟨c0, c1⟩ := (T20.out.below hv T20.out.lt).k2; obtain ⟨q1, q2⟩ := (Q20.out.below hv Q20.out.lt).res; go_simp; rfl)); go_simp)
          (refine h_call 5 rfl (by kernel_rfl) ?_ 11 ?_ ?_ ?_; (focus (go_simp; done)); rotate_left; (focus (go_simp; rfl)))
          refine (HTO.out (.agg (bdC cp a16 n16 c16).toArray) d1 (bdv HCP.out (L20.out.mono shOk D1.out))).mono ?_
          rintro z d2 ⟨rfl, hb⟩
          have D2 := Lib.hid (D1.out.trans (hb.mono D1.out.size))
          clear hb
          refine ⟨_, rfl, D2.out, ?_⟩
          go_simp
          (refine h_read 8 rfl (by kernel_rfl) (by kernel_rfl) ?_ ?_ ?_ ?_; (focus (go_simp; done)); rotate_left; (focus (intro v hv; go_simp; rfl)); go_simp)
          (refine h_read 9 rfl (by kernel_rfl) (by kernel_rfl) (h_free rfl) ?_ ?_ ?_; rotate_left; (focus (intro v hv; go_simp; rfl)); go_simp)
          (refine h_read 10 rfl (by kernel_rfl) (by kernel_rfl) (h_free rfl) ?_ ?_ ?_; rotate_left; (focus (intro v hv; go_simp; rfl)); go_simp)
          (refine h_read 11 rfl (by kernel_rfl) (by kernel_rfl) ?_ ?_ ?_ ?_; (focus (go_simp; done)); rotate_left; (focus (intro v hv; go_simp; rfl)); go_simp)
          (refine h_read 12 rfl (by kernel_rfl) (by kernel_rfl) ?_ ?_ ?_ ?_; (focus (go_simp; done)); rotate_left; (focus (intro v hv; obtain ⟨c0, c1⟩ := (T20.out.below hv T20.out.lt).k2; obtain ⟨q1, q2⟩ := (Q20.out.below hv Q20.out.lt).res; go_simp; rfl)); go_simp)
          (refine h_read 13 rfl (by kernel_rfl) (by kernel_rfl) ?_ ?_ ?_ ?_; (focus (go_simp; done)); rotate_left; (focus (intro v hv; go_simp; rfl)); go_simp)
          (refine h_read 14 rfl (by kernel_rfl) (by kernel_rfl) ?_ ?_ ?_ ?_; (focus (go_simp; done)); rotate_left; (focus (intro v hv; go_simp; rfl)); go_simp)
          (refine h_read 15 rfl (by kernel_rfl) (by kernel_rfl) ?_ ?_ ?_ ?_; (focus (go_simp; done)); rotate_left; (focus (intro v hv; refine run_cells 25 (.tmp 8) ?_ w15.heap.size 0 ?_ (bdC cp a16 n16 c16) _ (fun j' u' hj => by rw [hv.cell (p := ⟨w15.heap.size, 0 + j', none⟩) T20.out.lt, Nat.zero_add, T20.out.cellV]; exact hj) Try.underlying25 rfl bd_size; (focus rfl); go_simp)); go_simp)
          (refine h_read 16 rfl (by kernel_rfl) (by kernel_rfl) ?_ ?_ ?_ ?_; (focus (go_simp; done)); rotate_left; (focus (intro v hv; refine run_cells 25 (.tmp 5) ?_ w1.heap.size 0 ?_ (bdC b.cap a1 n1 c1) _ (fun j' u' hj => by rw [hv.cell (p := ⟨w1.heap.size, 0 + j', none⟩) P20.out.lt, Nat.zero_add, P20.out.cellV]; exact hj) Try.underlying25 rfl bd_size; (focus rfl); go_simp)); go_simp)
          (refine h_call 17 rfl (by kernel_rfl) ?_ 12 ?_ ?_ ?_; (focus (go_simp; done)); rotate_left; (focus (go_simp; rfl)))
          refine (HSA.out (.agg (bdC cp a16 n16 c16).toArray) (.agg (bdC b.cap a1 n1 c1).toArray) d2 (bdv HCP.out (L20.out.mono shOk D2.out)) (HBD.out d2 (L0.out.mono shOk D2.out))).mono ?_
          rintro z d3 ⟨rfl, hb⟩
          have D3 := Lib.hid (D2.out.trans (hb.mono D2.out.size))
          clear hb
          refine ⟨_, rfl, D3.out, ?_⟩
          go_simp
          (refine h_read 18 rfl (by kernel_rfl) (by kernel_rfl) ?_ ?_ ?_ ?_; (focus (go_simp; done)); rotate_left; (focus (intro v hv; go_simp; rfl)); go_simp)
          (refine h_read 19 rfl (by kernel_rfl) (by kernel_rfl) ?_ ?_ ?_ ?_; (focus (go_simp; done)); rotate_left; (focus (intro v hv; go_simp; rfl)); go_simp)
          (refine h_read 20 rfl (by kernel_rfl) (by kernel_rfl) (h_free rfl) ?_ ?_ ?_; rotate_left; (focus (intro v hv; go_simp; rfl)); go_simp)
          refine h_done (by kernel_rfl) ?_
          have TE := Lib.hid (T20.out.below D3.out T20.out.lt)
          have PE := Lib.hid (P20.out.below D3.out P20.out.lt)
          have LE := Lib.hid (L20.out.mono shOk D3.out)
          have BE := Lib.hid (B20.out.trans (D3.out.mono B20.out.size))
          have HNE2 := Lib.hid (show ∀ y off, a16 = some ⟨y, off, none⟩ → y ≠ w1.heap.size from fun y off e => Nat.ne_of_gt (Nat.lt_of_lt_of_le SG.out (N16.out y off e)))
          go_wp2_with (first
            | ((with_reducible refine load_row (o := ⟨some 58, _, _, _, _, _⟩) rfl _ _ rfl w15.heap.size ?_ _ (bdC cp a16 n16 c16) _ TE.out Try.underlying25 rfl ?_ ?_); (focus go_simp); (focus (exact LZS.out)))
            | ((with_reducible refine store_row (o := ⟨none, _, _, _, _, _⟩) rfl _ (.tmp 5) _ rfl w1.heap.size (bdC cp a16 n16 c16) ?_ ?_ 25 _ PE.out ?_ ?_ ?_ ?_); (focus go_simp); (focus (first | (go_simp; done) | (go_simp; rfl))); (focus (exact LZS.out)); (focus rfl); (focus (exact bd_one _ _ _ _)); intro w30 hr hu; have P30 := Lib.hid hr; have L30 := Lib.hid (LE.out.young (fun h x off e => HNE2.out x off e) hu (fun x hx => LE.out.hfit x hx)); have B30 := Lib.hid (BE.out.trans (hu.below B1.out.size)); clear hr hu))
          go_roundw
          case rel => exact ⟨k + 1, ⟨cp, L'⟩, a16, n16, c16, vint (by omega), by omega, OK2, P30, L30, HNE2, B30⟩
          case measure => simp [intOf]; omega
    · obtain rfl : n = k := by omega
      go_wp2_with (first
        | (go_at_call 13; (with_reducible refine (awake25 _).mono ?_); rintro z w9 ⟨rfl, hb⟩; have B9 := Lib.hid (B.out.trans (hb.mono B.out.size)); clear hb))
      go_ret
      exact ⟨by first | rfl | exact one (vbool (by simp)), B9.out⟩
end Go.Proofs.Ytkmdbdieloimiaa.W
