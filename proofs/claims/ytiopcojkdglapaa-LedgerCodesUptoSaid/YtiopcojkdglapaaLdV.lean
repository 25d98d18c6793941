/- LAYER 19 (ledger): Clone, own, Free, Quota, refusal, Reserve of the program. LAYER 19 (ledger): Reserve of the program. -/
import Derived.Test.YtiopcojkdglapaaLdQ
set_option linter.unusedSimpArgs false
set_option linter.unusedVariables false
namespace Go.Proofs.Ytiopcojkdglapaa.W
open Go Go.ChangeShapes Go.WideShapes Go.ChangeAt Go.RowKit
open Go.Proofs.Ytiopcojkdglapaa.P (enc dec)
open Go.Proofs.Ytiopcojkdglapaa.S

set_option maxRecDepth 100000 in
set_option maxHeartbeats 16000000 in
theorem hdclone (a : Option Addr) (n c : Nat) (L : List Hd) (w : World) (h : Ls hdE w a n c L) (hn : n ≤ 1000) :
    Calls Try.prog 44 #[.slice a n c] w fun x w' => ∃ a' c', x = .returned (.slice a' n c') ∧ LsO hdE w' w.heap.size (.slice a' n c') L ∧ Below w.heap.size w w' := by
  have H := Lib.hid h
  have hnil := fun (w : World) (a : Option Addr) (n c : Nat) => Lib.run_eql_slice_nil (P := Try.prog) w 48 52 a n c 0 0 Try.underlying48
  rcases a with _ | ad
  · have h0 := h.hnil rfl
    have h1 := h.hle
    have h2 := h.hlen
    obtain rfl : n = 0 := by omega
    have : L = [] := List.eq_nil_of_length_eq_zero h2
    subst this h0
    clear h h1 h2
    go_enter Try.func44, Try.ntmps44
    go_wp2_with fail
    go_ret
    exact ⟨none, 0, rfl, LsO.nil _ _, Below.refl _ _⟩
  · have HL := Lib.hid h.hlen
    have HFIT := Lib.hid (show ∀ x ∈ L, x.fit from h.hfit)
    clear h
    go_enter Try.func44, Try.ntmps44
    go_wp2_with (at_builtin; refine append_ls hdOk rfl _ _ rfl w.heap.size _ [] rfl (LsO.empty w _ (Nat.le_refl _)) (some ad) n c L rfl (H.out.mono hdOk ((Below.refl _ _).alloc (Nat.le_refl _) _)) (by simp; omega) (by simp) ?_; intro v2 w2 hN hb2 _ _; have N2 := Lib.hid (show LsO hdE w2 w.heap.size v2 L from hN); have B2 := Lib.hid (((Below.refl _ _).alloc (Nat.le_refl _) _).trans hb2); clear hN hb2)
    obtain ⟨a2, c2, hv, -, -⟩ := N2.out.ls hdOk HFIT.out
    subst hv
    rw [HL.out] at N2 ⊢
    go_ret
    exact ⟨a2, c2, rfl, N2.out, B2.out⟩
set_option maxRecDepth 100000 in
set_option maxHeartbeats 4000000 in
theorem pown (q u h' nx : Int) (a : Option Addr) (n c : Nat) (L : List Hd) (w : World) (h : Ls hdE w a n c L) (hn8 : n ≤ 100) :
    Calls Try.prog 109 #[.agg (ldC q u h' nx a n c).toArray] w fun x w' => ∃ a2 c2, x = .returned (.agg (ldC q u h' nx a2 n c2).toArray) ∧ LsO hdE w' w.heap.size (.slice a2 n c2) L ∧ Below w.heap.size w w' := by
  have SZ := Lib.hid ld_size
  have LZ := Lib.hid ld_zero
  have HC := Lib.hid (fun w' (hb : Below w.heap.size w w') => hdclone a n c L w' (h.mono hdOk hb) (by omega))
  clear h
  go_enter Try.func109, Try.ntmps109
  go_wp2_with (first
    | ((with_reducible refine box_row (o := ⟨some 1, _, _, _, _, _⟩) rfl _ _ rfl (ldC q u h' nx a n c) rfl ?_); intro w1 hr hb hz; have R1 := Lib.hid hr; have B1 := Lib.hid hb; have B1S := Lib.hid (show w.heap.size < w1.heap.size by omega); clear hr hb hz)
    | ((with_reducible refine alloc_row (o := ⟨some 2, _, _, _, _, _⟩) rfl _ rfl _ LZ.out ?_); intro w2 hr hb hz; have R22 := Lib.hid hr; have R12 := Lib.hid (R1.out.below hb R1.out.lt); obtain ⟨c0, c1, c2, c3, c4⟩ := R12.out.l5; have B2 := Lib.hid (B1.out.trans (hb.mono B1.out.size)); clear hr hb hz c0 c1 c2 c3)
    | (go_at_call 44; (with_reducible refine (HC.out w2 B2.out).mono ?_); rintro x w3 ⟨a3, c3, rfl, hown, hb⟩; have O3 := Lib.hid hown; have R13 := Lib.hid (R12.out.below hb R12.out.lt); have R23 := Lib.hid (R22.out.below hb R22.out.lt); have B3 := Lib.hid (B2.out.trans (hb.mono B2.out.size)); clear hown hb c4)
    | ((with_reducible refine store_cell (o := ⟨none, _, _, _, _, _⟩) rfl _ (.tmp 6) _ rfl w.heap.size 4 (.slice a3 n c3) ?_ ?_ rfl rfl 50 _ R13.out ?_ ?_ ?_); (focus go_simp); (focus go_simp); (focus (kernel_rfl)); (focus (show 4 < 5; decide)); intro w4 hr hu; have R14 := Lib.hid (show Row w4 w.heap.size 50 (ldC q u h' nx a3 n c3) from hr); have R24 := Lib.hid (R23.out.upd hu (Nat.ne_of_gt B1S.out)); have O4 := Lib.hid (O3.out.upd_lt hu R12.out.lt); have B4 := Lib.hid (B3.out.trans (hu.below (Nat.le_refl _))); clear hr hu)
    | ((with_reducible refine load_row (o := ⟨some 7, _, _, _, _, _⟩) rfl _ _ rfl w.heap.size ?_ _ (ldC q u h' nx a3 n c3) _ R14.out Try.underlying50 rfl ?_ ?_); (focus go_simp); (focus (exact SZ.out)))
    | ((with_reducible refine store_row (o := ⟨none, _, _, _, _, _⟩) rfl _ (.tmp 2) _ rfl w1.heap.size (ldC q u h' nx a3 n c3) ?_ ?_ 50 _ R24.out ?_ ?_ ?_ ?_); (focus go_simp); (focus (first | (go_simp; done) | (go_simp; rfl))); (focus (exact SZ.out)); (focus rfl); (focus (exact ld_one _ _ _ _ _ _ _)); intro w5 hr5 hu5; have R25 := Lib.hid hr5; have O5 := Lib.hid (O4.out.upd_lt hu5 R22.out.lt); have B5 := Lib.hid (B4.out.trans (hu5.below B1.out.size)); clear hr5 hu5))
  exact bodyPost_ret (results_cell_row rfl _ _ w1.heap.size 50 _ _ _ (by go_simp) R25.out Try.underlying50 rfl SZ.out) rfl ⟨_, _, rfl, O5.out.base B2.out.size, B5.out⟩
set_option maxRecDepth 100000 in
set_option maxHeartbeats 8000000 in
theorem pfree : LdFreeP 100 := by
  intro v l b w h hok
  obtain ⟨a, n, c, rfl, h⟩ := h
  have hn8 : n ≤ 8 := by rw [← h.hlen]; exact hok.len
  have hu := hok.u
  have hq := hok.q
  have hh := hok.h
  have hle := hok.le
  skip
  obtain ⟨q, u, h', nx, L⟩ := l
  dsimp only at h hok hu hq hh hle ⊢
  have LZS := Lib.hid ld_size
  have LZ := Lib.hid ld_zero
  have H := Lib.hid h
  have HL := Lib.hid h.hlen
  have HF := Lib.hid (h.hfit)
  have HC := Lib.hid (fun w' h => pown q u h' nx a n c L w' h (by omega))
  clear h hok
  obtain ⟨bv, hbv⟩ : ∃ v, in64 b 0 u = v := ⟨_, rfl⟩
  have HB := Lib.hid hbv
  have HA := Lib.hid (show Ld.free ⟨q, u, h', nx, L⟩ b = if bv = false then (⟨q, u, h', nx, L⟩, 1) else (⟨q, u - b, h', nx, L⟩, 0) by rw [← hbv]; rfl)
  rcases bv with _ | _
  · clear hbv
    rw [HA.out]
    simp only [if_true]
    go_enter Try.func100, Try.ntmps100
    go_wp2_with (first
      | ((with_reducible refine box_row (o := ⟨some 2, _, _, _, _, _⟩) rfl _ _ rfl (ldC q u h' nx a n c) rfl ?_); intro w1 hr hb hz; have R1 := Lib.hid hr; have B1 := Lib.hid hb; have HZ1 := Lib.hid hz; have B1S := Lib.hid (show w.heap.size < w1.heap.size by omega); clear hr hb hz)
      | ((with_reducible refine alloc_row (o := ⟨some 4, _, _, _, _, _⟩) rfl _ rfl _ LZ.out ?_); intro w2 hr hb hz; have R2 := Lib.hid hr; have R1 := Lib.hid (R1.out.below hb R1.out.lt); have B2 := Lib.hid (B1.out.trans (hb.mono B1.out.size)); have HZ2 := Lib.hid hz; clear hr hb hz)
      | ((with_reducible refine load_row (o := ⟨some 6, _, _, _, _, _⟩) rfl _ _ rfl w.heap.size ?_ _ (ldC q u h' nx a n c) _ R1.out Try.underlying50 rfl ?_ ?_); (focus go_simp); (focus (exact LZS.out)))
      | (go_at_call 109; (with_reducible refine (HC.out w2 (H.out.mono hdOk B2.out)).mono ?_); rintro x w3 ⟨a3, c3, rfl, hown, hb⟩; have O3s := Lib.hid hown; have R13 := Lib.hid (R1.out.below hb R1.out.lt); have R23 := Lib.hid (R2.out.below hb R2.out.lt); have B3 := Lib.hid (B2.out.trans (hb.mono B2.out.size)); clear hown hb)
      | ((with_reducible refine store_row (o := ⟨none, _, _, _, _, _⟩) rfl _ (.tmp 2) _ rfl w.heap.size (ldC q u h' nx a3 n c3) ?_ ?_ 50 _ R13.out ?_ ?_ ?_ ?_); (focus go_simp); (focus (first | (go_simp; done) | (go_simp; rfl))); (focus (exact LZS.out)); (focus rfl); (focus (exact ld_one _ _ _ _ _ _ _)); intro w4 hr4 hu4; have R14 := Lib.hid hr4; obtain ⟨c0, c1, c2, c3', c4⟩ := hr4.l5; have R24 := Lib.hid (R23.out.upd hu4 (Nat.ne_of_gt B1S.out)); have O4 := Lib.hid (O3s.out.upd_lt hu4 R1.out.lt); have B4 := Lib.hid (B3.out.trans (hu4.below (Nat.le_refl _))); clear hr4 hu4)
      | (go_at_call 91; with_reducible refine (pin b 0 u _ HB.out _).mono ?_; rintro x w' ⟨rfl, rfl⟩)
      | ((with_reducible refine load_row (o := ⟨some 13, _, _, _, _, _⟩) rfl _ _ rfl w.heap.size ?_ _ (ldC q u h' nx a3 n c3) _ R14.out Try.underlying50 rfl ?_ ?_); (focus go_simp); (focus (exact LZS.out)))
      | ((with_reducible refine store_row (o := ⟨none, _, _, _, _, _⟩) rfl _ (.tmp 4) _ rfl w1.heap.size (ldC q u h' nx a3 n c3) ?_ ?_ 50 _ R24.out ?_ ?_ ?_ ?_); (focus go_simp); (focus (first | (go_simp; done) | (go_simp; rfl))); (focus (exact LZS.out)); (focus rfl); (focus (exact ld_one _ _ _ _ _ _ _)); intro w5 hr5 hu5; have R25 := Lib.hid hr5; have O5 := Lib.hid (O4.out.upd_lt hu5 R2.out.lt); have B5 := Lib.hid (B4.out.trans (hu5.below B1.out.size)); clear hr5 hu5))
    exact bodyPost_ret (results_row_tmp rfl _ _ w1.heap.size 50 _ _ _ (by go_simp) R25.out Try.underlying50 rfl LZS.out) rfl ⟨_, rfl, ⟨_, _, _, rfl, (hd_out O5.out HL.out HF.out)⟩, B5.out⟩
  · have hb := in64_iff.1 hbv
    clear hbv
    rw [HA.out]
    simp only [Bool.true_eq_false, if_false]
    go_enter Try.func100, Try.ntmps100
    go_wp2_with (first
      | ((with_reducible refine box_row (o := ⟨some 2, _, _, _, _, _⟩) rfl _ _ rfl (ldC q u h' nx a n c) rfl ?_); intro w1 hr hb hz; have R1 := Lib.hid hr; have B1 := Lib.hid hb; have HZ1 := Lib.hid hz; have B1S := Lib.hid (show w.heap.size < w1.heap.size by omega); clear hr hb hz)
      | ((with_reducible refine alloc_row (o := ⟨some 4, _, _, _, _, _⟩) rfl _ rfl _ LZ.out ?_); intro w2 hr hb hz; have R2 := Lib.hid hr; have R1 := Lib.hid (R1.out.below hb R1.out.lt); have B2 := Lib.hid (B1.out.trans (hb.mono B1.out.size)); have HZ2 := Lib.hid hz; clear hr hb hz)
      | ((with_reducible refine load_row (o := ⟨some 6, _, _, _, _, _⟩) rfl _ _ rfl w.heap.size ?_ _ (ldC q u h' nx a n c) _ R1.out Try.underlying50 rfl ?_ ?_); (focus go_simp); (focus (exact LZS.out)))
      | (go_at_call 109; (with_reducible refine (HC.out w2 (H.out.mono hdOk B2.out)).mono ?_); rintro x w3 ⟨a3, c3, rfl, hown, hb⟩; have O3s := Lib.hid hown; have R13 := Lib.hid (R1.out.below hb R1.out.lt); have R23 := Lib.hid (R2.out.below hb R2.out.lt); have B3 := Lib.hid (B2.out.trans (hb.mono B2.out.size)); clear hown hb)
      | ((with_reducible refine store_row (o := ⟨none, _, _, _, _, _⟩) rfl _ (.tmp 2) _ rfl w.heap.size (ldC q u h' nx a3 n c3) ?_ ?_ 50 _ R13.out ?_ ?_ ?_ ?_); (focus go_simp); (focus (first | (go_simp; done) | (go_simp; rfl))); (focus (exact LZS.out)); (focus rfl); (focus (exact ld_one _ _ _ _ _ _ _)); intro w4 hr4 hu4; have R14 := Lib.hid hr4; obtain ⟨c0, c1, c2, c3', c4⟩ := hr4.l5; have R24 := Lib.hid (R23.out.upd hu4 (Nat.ne_of_gt B1S.out)); have O4 := Lib.hid (O3s.out.upd_lt hu4 R1.out.lt); have B4 := Lib.hid (B3.out.trans (hu4.below (Nat.le_refl _))); clear hr4 hu4)
      | (go_at_call 91; with_reducible refine (pin b 0 u _ HB.out _).mono ?_; rintro x w' ⟨rfl, rfl⟩)
      | ((with_reducible refine store_cell (o := ⟨none, _, _, _, _, _⟩) rfl _ (.tmp 18) _ rfl w.heap.size 1 (.int .i64 (u - b)) ?_ ?_ rfl rfl 50 _ R14.out ?_ ?_ ?_); (focus go_simp); (focus (go_simp; first | done | rfl | exact vint (by omega))); (focus (kernel_rfl)); (focus (show 1 < 5; decide)); intro w5 hr hu; have R15 := Lib.hid (show Row w5 w.heap.size 50 (ldC q (u - b) h' nx a3 n c3) from hr); have R25 := Lib.hid (R24.out.upd hu (Nat.ne_of_gt B1S.out)); have O5 := Lib.hid (O4.out.upd_lt hu R1.out.lt); have B5 := Lib.hid (B4.out.trans (hu.below (Nat.le_refl _))); clear hr hu)
      | ((with_reducible refine load_row (o := ⟨some 19, _, _, _, _, _⟩) rfl _ _ rfl w.heap.size ?_ _ (ldC q (u - b) h' nx a3 n c3) _ R15.out Try.underlying50 rfl ?_ ?_); (focus go_simp); (focus (exact LZS.out)))
      | ((with_reducible refine store_row (o := ⟨none, _, _, _, _, _⟩) rfl _ (.tmp 4) _ rfl w1.heap.size (ldC q (u - b) h' nx a3 n c3) ?_ ?_ 50 _ R25.out ?_ ?_ ?_ ?_); (focus go_simp); (focus (first | (go_simp; done) | (go_simp; rfl))); (focus (exact LZS.out)); (focus rfl); (focus (exact ld_one _ _ _ _ _ _ _)); intro w6 hr6 hu6; have R26 := Lib.hid hr6; have O6 := Lib.hid (O5.out.upd_lt hu6 R2.out.lt); have B6 := Lib.hid (B5.out.trans (hu6.below B1.out.size)); clear hr6 hu6))
    exact bodyPost_ret (results_row_tmp rfl _ _ w1.heap.size 50 _ _ _ (by go_simp) R26.out Try.underlying50 rfl LZS.out) rfl ⟨_, rfl, ⟨_, _, _, rfl, (hd_out O6.out HL.out HF.out)⟩, B6.out⟩
set_option maxRecDepth 100000 in
set_option maxHeartbeats 8000000 in
theorem pquota : LdQuotaP 102 := by
  intro v l b w h hok
  obtain ⟨a, n, c, rfl, h⟩ := h
  have hn8 : n ≤ 8 := by rw [← h.hlen]; exact hok.len
  have hu := hok.u
  have hq := hok.q
  have hh := hok.h
  have hle := hok.le
  skip
  obtain ⟨q, u, h', nx, L⟩ := l
  dsimp only at h hok hu hq hh hle ⊢
  have LZS := Lib.hid ld_size
  have LZ := Lib.hid ld_zero
  have H := Lib.hid h
  have HL := Lib.hid h.hlen
  have HF := Lib.hid (h.hfit)
  have HC := Lib.hid (fun w' h => pown q u h' nx a n c L w' h (by omega))
  clear h hok
  obtain ⟨bv, hbv⟩ : ∃ v, in64 b 0 1099511627776 = v := ⟨_, rfl⟩
  have HB := Lib.hid hbv
  have HA := Lib.hid (show Ld.quota ⟨q, u, h', nx, L⟩ b = if bv = false then (⟨q, u, h', nx, L⟩, 1) else if b < u + h' then (⟨q, u, h', nx, L⟩, 22) else (⟨b, u, h', nx, L⟩, 0) by rw [← hbv]; rfl)
  have HT := Lib.hid (show T40s [u, h'] from fun x hx => by simp at hx; rcases hx with rfl | rfl; exact hu; exact hh)
  rcases bv with _ | _
  · clear hbv
    rw [HA.out]
    simp only [if_true]
    go_enter Try.func102, Try.ntmps102
    go_wp2_with (first
      | ((with_reducible refine box_row (o := ⟨some 2, _, _, _, _, _⟩) rfl _ _ rfl (ldC q u h' nx a n c) rfl ?_); intro w1 hr hb hz; have R1 := Lib.hid hr; have B1 := Lib.hid hb; have HZ1 := Lib.hid hz; have B1S := Lib.hid (show w.heap.size < w1.heap.size by omega); clear hr hb hz)
      | ((with_reducible refine alloc_row (o := ⟨some 4, _, _, _, _, _⟩) rfl _ rfl _ LZ.out ?_); intro w2 hr hb hz; have R2 := Lib.hid hr; have R1 := Lib.hid (R1.out.below hb R1.out.lt); have B2 := Lib.hid (B1.out.trans (hb.mono B1.out.size)); have HZ2 := Lib.hid hz; clear hr hb hz)
      | ((with_reducible refine load_row (o := ⟨some 6, _, _, _, _, _⟩) rfl _ _ rfl w.heap.size ?_ _ (ldC q u h' nx a n c) _ R1.out Try.underlying50 rfl ?_ ?_); (focus go_simp); (focus (exact LZS.out)))
      | (go_at_call 109; (with_reducible refine (HC.out w2 (H.out.mono hdOk B2.out)).mono ?_); rintro x w3 ⟨a3, c3, rfl, hown, hb⟩; have O3s := Lib.hid hown; have R13 := Lib.hid (R1.out.below hb R1.out.lt); have R23 := Lib.hid (R2.out.below hb R2.out.lt); have B3 := Lib.hid (B2.out.trans (hb.mono B2.out.size)); clear hown hb)
      | ((with_reducible refine store_row (o := ⟨none, _, _, _, _, _⟩) rfl _ (.tmp 2) _ rfl w.heap.size (ldC q u h' nx a3 n c3) ?_ ?_ 50 _ R13.out ?_ ?_ ?_ ?_); (focus go_simp); (focus (first | (go_simp; done) | (go_simp; rfl))); (focus (exact LZS.out)); (focus rfl); (focus (exact ld_one _ _ _ _ _ _ _)); intro w4 hr4 hu4; have R14 := Lib.hid hr4; obtain ⟨c0, c1, c2, c3', c4⟩ := hr4.l5; have R24 := Lib.hid (R23.out.upd hu4 (Nat.ne_of_gt B1S.out)); have O4 := Lib.hid (O3s.out.upd_lt hu4 R1.out.lt); have B4 := Lib.hid (B3.out.trans (hu4.below (Nat.le_refl _))); clear hr4 hu4)
      | (go_at_call 91; with_reducible refine (pin b 0 1099511627776 _ HB.out _).mono ?_; rintro x w' ⟨rfl, rfl⟩)
      | ((with_reducible refine load_row (o := ⟨some 11, _, _, _, _, _⟩) rfl _ _ rfl w.heap.size ?_ _ (ldC q u h' nx a3 n c3) _ R14.out Try.underlying50 rfl ?_ ?_); (focus go_simp); (focus (exact LZS.out)))
      | ((with_reducible refine store_row (o := ⟨none, _, _, _, _, _⟩) rfl _ (.tmp 4) _ rfl w1.heap.size (ldC q u h' nx a3 n c3) ?_ ?_ 50 _ R24.out ?_ ?_ ?_ ?_); (focus go_simp); (focus (first | (go_simp; done) | (go_simp; rfl))); (focus (exact LZS.out)); (focus rfl); (focus (exact ld_one _ _ _ _ _ _ _)); intro w5 hr5 hu5; have R25 := Lib.hid hr5; have O5 := Lib.hid (O4.out.upd_lt hu5 R2.out.lt); have B5 := Lib.hid (B4.out.trans (hu5.below B1.out.size)); clear hr5 hu5))
    exact bodyPost_ret (results_row_tmp rfl _ _ w1.heap.size 50 _ _ _ (by go_simp) R25.out Try.underlying50 rfl LZS.out) rfl ⟨_, rfl, ⟨_, _, _, rfl, (hd_out O5.out HL.out HF.out)⟩, B5.out⟩
  · have hb := in64_iff.1 hbv
    clear hbv
    rw [HA.out]
    simp only [Bool.true_eq_false, if_false]
    by_cases hlt : b < u + h'
    · rw [if_pos hlt]
      have HS := Lib.hid (show decide ([u, h'].sum ≤ b) = false by simp; omega)
      go_enter Try.func102, Try.ntmps102
      go_wp2_with (first
        | ((with_reducible refine box_row (o := ⟨some 2, _, _, _, _, _⟩) rfl _ _ rfl (ldC q u h' nx a n c) rfl ?_); intro w1 hr hb hz; have R1 := Lib.hid hr; have B1 := Lib.hid hb; have HZ1 := Lib.hid hz; have B1S := Lib.hid (show w.heap.size < w1.heap.size by omega); clear hr hb hz)
        | ((with_reducible refine alloc_row (o := ⟨some 4, _, _, _, _, _⟩) rfl _ rfl _ LZ.out ?_); intro w2 hr hb hz; have R2 := Lib.hid hr; have R1 := Lib.hid (R1.out.below hb R1.out.lt); have B2 := Lib.hid (B1.out.trans (hb.mono B1.out.size)); have HZ2 := Lib.hid hz; clear hr hb hz)
        | ((with_reducible refine load_row (o := ⟨some 6, _, _, _, _, _⟩) rfl _ _ rfl w.heap.size ?_ _ (ldC q u h' nx a n c) _ R1.out Try.underlying50 rfl ?_ ?_); (focus go_simp); (focus (exact LZS.out)))
        | (go_at_call 109; (with_reducible refine (HC.out w2 (H.out.mono hdOk B2.out)).mono ?_); rintro x w3 ⟨a3, c3, rfl, hown, hb⟩; have O3s := Lib.hid hown; have R13 := Lib.hid (R1.out.below hb R1.out.lt); have R23 := Lib.hid (R2.out.below hb R2.out.lt); have B3 := Lib.hid (B2.out.trans (hb.mono B2.out.size)); clear hown hb)
        | ((with_reducible refine store_row (o := ⟨none, _, _, _, _, _⟩) rfl _ (.tmp 2) _ rfl w.heap.size (ldC q u h' nx a3 n c3) ?_ ?_ 50 _ R13.out ?_ ?_ ?_ ?_); (focus go_simp); (focus (first | (go_simp; done) | (go_simp; rfl))); (focus (exact LZS.out)); (focus rfl); (focus (exact ld_one _ _ _ _ _ _ _)); intro w4 hr4 hu4; have R14 := Lib.hid hr4; obtain ⟨c0, c1, c2, c3', c4⟩ := hr4.l5; have R24 := Lib.hid (R23.out.upd hu4 (Nat.ne_of_gt B1S.out)); have O4 := Lib.hid (O3s.out.upd_lt hu4 R1.out.lt); have B4 := Lib.hid (B3.out.trans (hu4.below (Nat.le_refl _))); clear hr4 hu4)
        | (go_at_call 91; with_reducible refine (pin b 0 1099511627776 _ HB.out _).mono ?_; rintro x w' ⟨rfl, rfl⟩)
        | ((with_reducible refine bi2 (o := ⟨some 17, _, _, _, _, _⟩) rfl _ _ rfl u h' ?_ ?_ ?_ ?_ ?_); (focus (first | (go_simp; done) | (go_simp; rfl))); (focus (first | (go_simp; done) | (go_simp; rfl))); (focus (constructor <;> omega)); (focus (constructor <;> omega)); intro w5 hsl hb hz; have SL := Lib.hid hsl; have R15 := Lib.hid (R14.out.below hb R14.out.lt); have R25 := Lib.hid (R24.out.below hb R24.out.lt); have O5 := Lib.hid (O4.out.kept hb); have B5 := Lib.hid (B4.out.trans (hb.mono B4.out.size)); clear hsl hb hz)
        | (go_at_call 93; with_reducible refine (lfit b _ 2 2 [u, h'] _ SL.out HT.out (by decide) (by decide)).mono ?_; rw [HS.out]; rintro x w' ⟨rfl, rfl⟩)
        | ((with_reducible refine load_row (o := ⟨some 20, _, _, _, _, _⟩) rfl _ _ rfl w.heap.size ?_ _ (ldC q u h' nx a3 n c3) _ R15.out Try.underlying50 rfl ?_ ?_); (focus go_simp); (focus (exact LZS.out)))
        | ((with_reducible refine store_row (o := ⟨none, _, _, _, _, _⟩) rfl _ (.tmp 4) _ rfl w1.heap.size (ldC q u h' nx a3 n c3) ?_ ?_ 50 _ R25.out ?_ ?_ ?_ ?_); (focus go_simp); (focus (first | (go_simp; done) | (go_simp; rfl))); (focus (exact LZS.out)); (focus rfl); (focus (exact ld_one _ _ _ _ _ _ _)); intro w6 hr6 hu6; have R26 := Lib.hid hr6; have O6 := Lib.hid (O5.out.upd_lt hu6 R2.out.lt); have B6 := Lib.hid (B5.out.trans (hu6.below B1.out.size)); clear hr6 hu6))
      exact bodyPost_ret (results_row_tmp rfl _ _ w1.heap.size 50 _ _ _ (by go_simp) R26.out Try.underlying50 rfl LZS.out) rfl ⟨_, rfl, ⟨_, _, _, rfl, (hd_out O6.out HL.out HF.out)⟩, B6.out⟩
    · rw [if_neg hlt]
      have HS := Lib.hid (show decide ([u, h'].sum ≤ b) = true by simp; omega)
      go_enter Try.func102, Try.ntmps102
      go_wp2_with (first
        | ((with_reducible refine box_row (o := ⟨some 2, _, _, _, _, _⟩) rfl _ _ rfl (ldC q u h' nx a n c) rfl ?_); intro w1 hr hb hz; have R1 := Lib.hid hr; have B1 := Lib.hid hb; have HZ1 := Lib.hid hz; have B1S := Lib.hid (show w.heap.size < w1.heap.size by omega); clear hr hb hz)
        | ((with_reducible refine alloc_row (o := ⟨some 4, _, _, _, _, _⟩) rfl _ rfl _ LZ.out ?_); intro w2 hr hb hz; have R2 := Lib.hid hr; have R1 := Lib.hid (R1.out.below hb R1.out.lt); have B2 := Lib.hid (B1.out.trans (hb.mono B1.out.size)); have HZ2 := Lib.hid hz; clear hr hb hz)
        | ((with_reducible refine load_row (o := ⟨some 6, _, _, _, _, _⟩) rfl _ _ rfl w.heap.size ?_ _ (ldC q u h' nx a n c) _ R1.out Try.underlying50 rfl ?_ ?_); (focus go_simp); (focus (exact LZS.out)))
        | (go_at_call 109; (with_reducible refine (HC.out w2 (H.out.mono hdOk B2.out)).mono ?_); rintro x w3 ⟨a3, c3, rfl, hown, hb⟩; have O3s := Lib.hid hown; have R13 := Lib.hid (R1.out.below hb R1.out.lt); have R23 := Lib.hid (R2.out.below hb R2.out.lt); have B3 := Lib.hid (B2.out.trans (hb.mono B2.out.size)); clear hown hb)
        | ((with_reducible refine store_row (o := ⟨none, _, _, _, _, _⟩) rfl _ (.tmp 2) _ rfl w.heap.size (ldC q u h' nx a3 n c3) ?_ ?_ 50 _ R13.out ?_ ?_ ?_ ?_); (focus go_simp); (focus (first | (go_simp; done) | (go_simp; rfl))); (focus (exact LZS.out)); (focus rfl); (focus (exact ld_one _ _ _ _ _ _ _)); intro w4 hr4 hu4; have R14 := Lib.hid hr4; obtain ⟨c0, c1, c2, c3', c4⟩ := hr4.l5; have R24 := Lib.hid (R23.out.upd hu4 (Nat.ne_of_gt B1S.out)); have O4 := Lib.hid (O3s.out.upd_lt hu4 R1.out.lt); have B4 := Lib.hid (B3.out.trans (hu4.below (Nat.le_refl _))); clear hr4 hu4)
        | (go_at_call 91; with_reducible refine (pin b 0 1099511627776 _ HB.out _).mono ?_; rintro x w' ⟨rfl, rfl⟩)
        | ((with_reducible refine bi2 (o := ⟨some 17, _, _, _, _, _⟩) rfl _ _ rfl u h' ?_ ?_ ?_ ?_ ?_); (focus (first | (go_simp; done) | (go_simp; rfl))); (focus (first | (go_simp; done) | (go_simp; rfl))); (focus (constructor <;> omega)); (focus (constructor <;> omega)); intro w5 hsl hb hz; have SL := Lib.hid hsl; have R15 := Lib.hid (R14.out.below hb R14.out.lt); have R25 := Lib.hid (R24.out.below hb R24.out.lt); have O5 := Lib.hid (O4.out.kept hb); have B5 := Lib.hid (B4.out.trans (hb.mono B4.out.size)); clear hsl hb hz)
        | (go_at_call 93; with_reducible refine (lfit b _ 2 2 [u, h'] _ SL.out HT.out (by decide) (by decide)).mono ?_; rw [HS.out]; rintro x w' ⟨rfl, rfl⟩)
        | ((with_reducible refine store_cell (o := ⟨none, _, _, _, _, _⟩) rfl _ (.tmp 22) _ rfl w.heap.size 0 (.int .i64 b) ?_ ?_ rfl rfl 50 _ R15.out ?_ ?_ ?_); (focus go_simp); (focus (go_simp; first | done | rfl | exact vint (by omega))); (focus (kernel_rfl)); (focus (show 0 < 5; decide)); intro w6 hr hu; have R16 := Lib.hid (show Row w6 w.heap.size 50 (ldC b u h' nx a3 n c3) from hr); have R26 := Lib.hid (R25.out.upd hu (Nat.ne_of_gt B1S.out)); have O6 := Lib.hid (O5.out.upd_lt hu R1.out.lt); have B6 := Lib.hid (B5.out.trans (hu.below (Nat.le_refl _))); clear hr hu)
        | ((with_reducible refine load_row (o := ⟨some 23, _, _, _, _, _⟩) rfl _ _ rfl w.heap.size ?_ _ (ldC b u h' nx a3 n c3) _ R16.out Try.underlying50 rfl ?_ ?_); (focus go_simp); (focus (exact LZS.out)))
        | ((with_reducible refine store_row (o := ⟨none, _, _, _, _, _⟩) rfl _ (.tmp 4) _ rfl w1.heap.size (ldC b u h' nx a3 n c3) ?_ ?_ 50 _ R26.out ?_ ?_ ?_ ?_); (focus go_simp); (focus (first | (go_simp; done) | (go_simp; rfl))); (focus (exact LZS.out)); (focus rfl); (focus (exact ld_one _ _ _ _ _ _ _)); intro w7 hr7 hu7; have R27 := Lib.hid hr7; have O7 := Lib.hid (O6.out.upd_lt hu7 R2.out.lt); have B7 := Lib.hid (B6.out.trans (hu7.below B1.out.size)); clear hr7 hu7))
      exact bodyPost_ret (results_row_tmp rfl _ _ w1.heap.size 50 _ _ _ (by go_simp) R27.out Try.underlying50 rfl LZS.out) rfl ⟨_, rfl, ⟨_, _, _, rfl, (hd_out O7.out HL.out HF.out)⟩, B7.out⟩
def Ld.ref (l : Ld) (s : Hd) : Int := if s.ok = false then 1 else if 8 ≤ l.L.length ∨ T31 ≤ l.n then 7 else if l.q < l.u + l.h + s.by' then 14 else 0
theorem reserve_ref (l : Ld) (x : Hd) : l.reserve x = if l.ref { x with id := l.n } = 0 then ({ l with h := l.h + x.by', n := l.n + 1, L := l.L ++ [{ x with id := l.n }] }, l.n, 0) else (l, 0, l.ref { x with id := l.n }) := by
  unfold Ld.reserve Ld.ref
  by_cases h1 : ({ x with id := l.n } : Hd).ok = false
  · rw [if_pos h1, if_pos h1]; rfl
  · rw [if_neg h1, if_neg h1]
    by_cases h2 : 8 ≤ l.L.length ∨ T31 ≤ l.n
    · rw [if_pos h2, if_pos h2]; rfl
    · rw [if_neg h2, if_neg h2]
      by_cases h3 : l.q < l.u + l.h + x.by'
      · rw [if_pos h3, if_pos h3]; rfl
      · rw [if_neg h3, if_neg h3]; rfl
set_option maxRecDepth 100000 in
set_option maxHeartbeats 8000000 in
theorem prefusal (q u h' nx : Int) (a : Option Addr) (n c : Nat) (L : List Hd) (s : Hd) (w : World) (hn : L.length = n) (hok : OkL ⟨q, u, h', nx, L⟩) (hs : s.fit) :
    Calls Try.prog 108 #[.agg (ldC q u h' nx a n c).toArray, .agg s.cells.toArray] w fun x w' => x = .returned (.int .i64 (Ld.ref ⟨q, u, h', nx, L⟩ s)) ∧ Below w.heap.size w w' := by
  have hu := hok.u
  have hq := hok.q
  have hh := hok.h
  have hnn := hok.n
  dsimp only at hu hq hh hnn
  have SZ := Lib.hid hd_size
  have HONE := Lib.hid (fun w => pholdfits s w hs)
  obtain ⟨i1, i2, i3, i4, i5, sp⟩ := s
  obtain ⟨ok, hk⟩ : ∃ b, Hd.ok ⟨i1, i2, i3, i4, i5, sp⟩ = b := ⟨_, rfl⟩
  have HOK := Lib.hid hk
  have HR := Lib.hid (show Ld.ref ⟨q, u, h', nx, L⟩ ⟨i1, i2, i3, i4, i5, sp⟩ = if ok = false then 1 else if 8 ≤ n ∨ 2147483648 ≤ nx then 7 else if q < u + h' + i3 then 14 else 0 by unfold Ld.ref T31; dsimp only; rw [hk, hn])
  clear hok hs hn
  cases ok
  · rw [HR.out, if_pos rfl]
    clear hk hu hq hh hnn
    go_enter Try.func108, Try.ntmps108
    go_wp2_with (first
      | ((with_reducible refine box_row (o := ⟨some 2, _, _, _, _, _⟩) rfl _ _ rfl (ldC q u h' nx a n c) rfl ?_); intro w1 hr hb hz; have R1 := Lib.hid hr; have B1 := Lib.hid hb; clear hr hb hz)
      | ((with_reducible refine box_row (o := ⟨some 3, _, _, _, _, _⟩) rfl _ _ rfl [.int .i64 i1, .int .i64 i2, .int .i64 i3, .int .i64 i4, .int .i64 i5, .string sp] rfl ?_); intro w2 hr hb hz; have RH2 := Lib.hid hr; have R12 := Lib.hid (R1.out.below hb R1.out.lt); have B2 := Lib.hid (B1.out.trans (hb.mono B1.out.size)); clear hr hb hz)
      | ((with_reducible refine load_row (o := ⟨some 6, _, _, _, _, _⟩) rfl _ _ rfl w1.heap.size ?_ _ [.int .i64 i1, .int .i64 i2, .int .i64 i3, .int .i64 i4, .int .i64 i5, .string sp] _ RH2.out Try.underlying52 rfl ?_ ?_); (focus go_simp); (focus (exact SZ.out)))
      | (go_at_call 143; (with_reducible refine (HONE.out w2).mono ?_); rw [HOK.out]; rintro x w3 ⟨rfl, hb⟩; have RH3 := Lib.hid (RH2.out.below hb RH2.out.lt); have R13 := Lib.hid (R12.out.below hb R12.out.lt); have BZ := Lib.hid (B2.out.trans (hb.mono B2.out.size)); obtain ⟨c0, c1, c2, c3, c4⟩ := R13.out.l5; obtain ⟨d0, d1, d2, d3, d4, d5⟩ := RH3.out.h6; clear hb))
    go_ret
    exact ⟨one (vint (by omega)), BZ.out⟩
  · have hb3 := (ok_hd.1 hk).by'
    have hb3 : 0 ≤ i3 ∧ i3 ≤ 1099511627776 := hb3
    rw [HR.out, if_neg (by simp)]
    clear hk HR
    by_cases h8 : 8 ≤ n
    · have g8 : (8 : Int) ≤ (n : Int) := by omega
      rw [if_pos (Or.inl h8)]
      clear hu hq hh hnn hb3
      go_enter Try.func108, Try.ntmps108
      go_wp2_with (first
        | ((with_reducible refine box_row (o := ⟨some 2, _, _, _, _, _⟩) rfl _ _ rfl (ldC q u h' nx a n c) rfl ?_); intro w1 hr hb hz; have R1 := Lib.hid hr; have B1 := Lib.hid hb; clear hr hb hz)
        | ((with_reducible refine box_row (o := ⟨some 3, _, _, _, _, _⟩) rfl _ _ rfl [.int .i64 i1, .int .i64 i2, .int .i64 i3, .int .i64 i4, .int .i64 i5, .string sp] rfl ?_); intro w2 hr hb hz; have RH2 := Lib.hid hr; have R12 := Lib.hid (R1.out.below hb R1.out.lt); have B2 := Lib.hid (B1.out.trans (hb.mono B1.out.size)); clear hr hb hz)
        | ((with_reducible refine load_row (o := ⟨some 6, _, _, _, _, _⟩) rfl _ _ rfl w1.heap.size ?_ _ [.int .i64 i1, .int .i64 i2, .int .i64 i3, .int .i64 i4, .int .i64 i5, .string sp] _ RH2.out Try.underlying52 rfl ?_ ?_); (focus go_simp); (focus (exact SZ.out)))
        | (go_at_call 143; (with_reducible refine (HONE.out w2).mono ?_); rw [HOK.out]; rintro x w3 ⟨rfl, hb⟩; have RH3 := Lib.hid (RH2.out.below hb RH2.out.lt); have R13 := Lib.hid (R12.out.below hb R12.out.lt); have BZ := Lib.hid (B2.out.trans (hb.mono B2.out.size)); obtain ⟨c0, c1, c2, c3, c4⟩ := R13.out.l5; obtain ⟨d0, d1, d2, d3, d4, d5⟩ := RH3.out.h6; clear hb))
      go_ret
      exact ⟨one (vint (by omega)), BZ.out⟩
    · have g8 : ¬ (8 : Int) ≤ (n : Int) := by omega
      by_cases hx : 2147483648 ≤ nx
      · have gb : (nx == 2147483648) = true := by (have : nx = 2147483648 := by omega); simp [this]
        rw [if_pos (Or.inr hx)]
        clear hu hq hh hnn hb3 hx
        go_enter Try.func108, Try.ntmps108
        go_wp2_with (first
          | ((with_reducible refine box_row (o := ⟨some 2, _, _, _, _, _⟩) rfl _ _ rfl (ldC q u h' nx a n c) rfl ?_); intro w1 hr hb hz; have R1 := Lib.hid hr; have B1 := Lib.hid hb; clear hr hb hz)
          | ((with_reducible refine box_row (o := ⟨some 3, _, _, _, _, _⟩) rfl _ _ rfl [.int .i64 i1, .int .i64 i2, .int .i64 i3, .int .i64 i4, .int .i64 i5, .string sp] rfl ?_); intro w2 hr hb hz; have RH2 := Lib.hid hr; have R12 := Lib.hid (R1.out.below hb R1.out.lt); have B2 := Lib.hid (B1.out.trans (hb.mono B1.out.size)); clear hr hb hz)
          | ((with_reducible refine load_row (o := ⟨some 6, _, _, _, _, _⟩) rfl _ _ rfl w1.heap.size ?_ _ [.int .i64 i1, .int .i64 i2, .int .i64 i3, .int .i64 i4, .int .i64 i5, .string sp] _ RH2.out Try.underlying52 rfl ?_ ?_); (focus go_simp); (focus (exact SZ.out)))
          | (go_at_call 143; (with_reducible refine (HONE.out w2).mono ?_); rw [HOK.out]; rintro x w3 ⟨rfl, hb⟩; have RH3 := Lib.hid (RH2.out.below hb RH2.out.lt); have R13 := Lib.hid (R12.out.below hb R12.out.lt); have BZ := Lib.hid (B2.out.trans (hb.mono B2.out.size)); obtain ⟨c0, c1, c2, c3, c4⟩ := R13.out.l5; obtain ⟨d0, d1, d2, d3, d4, d5⟩ := RH3.out.h6; clear hb))
        go_ret
        exact ⟨one (vint (by omega)), BZ.out⟩
      · have gx : ¬ nx = 2147483648 := by omega
        have gb : (nx == 2147483648) = false := by simpa using gx
        rw [if_neg (by omega)]
        have HT := Lib.hid (show T40s [h', i3, u] from fun x hx => by simp at hx; rcases hx with rfl | rfl | rfl; exact hh; exact hb3; exact hu)
        by_cases hlt : q < u + h' + i3
        · rw [if_pos hlt]
          have HS := Lib.hid (show decide ([h', i3, u].sum ≤ q) = false by simp; omega)
          go_enter Try.func108, Try.ntmps108
          go_wp2_with (first
            | ((with_reducible refine box_row (o := ⟨some 2, _, _, _, _, _⟩) rfl _ _ rfl (ldC q u h' nx a n c) rfl ?_); intro w1 hr hb hz; have R1 := Lib.hid hr; have B1 := Lib.hid hb; clear hr hb hz)
            | ((with_reducible refine box_row (o := ⟨some 3, _, _, _, _, _⟩) rfl _ _ rfl [.int .i64 i1, .int .i64 i2, .int .i64 i3, .int .i64 i4, .int .i64 i5, .string sp] rfl ?_); intro w2 hr hb hz; have RH2 := Lib.hid hr; have R12 := Lib.hid (R1.out.below hb R1.out.lt); have B2 := Lib.hid (B1.out.trans (hb.mono B1.out.size)); clear hr hb hz)
            | ((with_reducible refine load_row (o := ⟨some 6, _, _, _, _, _⟩) rfl _ _ rfl w1.heap.size ?_ _ [.int .i64 i1, .int .i64 i2, .int .i64 i3, .int .i64 i4, .int .i64 i5, .string sp] _ RH2.out Try.underlying52 rfl ?_ ?_); (focus go_simp); (focus (exact SZ.out)))
            | (go_at_call 143; (with_reducible refine (HONE.out w2).mono ?_); rw [HOK.out]; rintro x w3 ⟨rfl, hb⟩; have RH3 := Lib.hid (RH2.out.below hb RH2.out.lt); have R13 := Lib.hid (R12.out.below hb R12.out.lt); have BZ := Lib.hid (B2.out.trans (hb.mono B2.out.size)); obtain ⟨c0, c1, c2, c3, c4⟩ := R13.out.l5; obtain ⟨d0, d1, d2, d3, d4, d5⟩ := RH3.out.h6; clear hb)
            | ((with_reducible refine bi3 (o := ⟨some 28, _, _, _, _, _⟩) rfl _ _ _ rfl h' i3 u ?_ ?_ ?_ ?_ ?_ ?_ ?_); (focus (first | (go_simp; done) | (go_simp; rfl))); (focus (first | (go_simp; done) | (go_simp; rfl))); (focus (first | (go_simp; done) | (go_simp; rfl))); (focus (constructor <;> omega)); (focus (constructor <;> omega)); (focus (constructor <;> omega)); intro w4 hsl hb hz; have SL := Lib.hid hsl; have BY := BZ; clear BZ; have BZ := Lib.hid (BY.out.trans (hb.mono BY.out.size)); have R14 := Lib.hid (R13.out.below hb R13.out.lt); clear c0 c1 c2 c3 c4 d0 d1 d2 d3 d4 d5; obtain ⟨c0, c1, c2, c3, c4⟩ := R14.out.l5; clear hsl hb hz)
            | (go_at_call 93; with_reducible refine (lfit q _ 3 3 [h', i3, u] _ SL.out HT.out (by decide) (by decide)).mono ?_; rw [HS.out]; rintro x w' ⟨rfl, rfl⟩))
          go_ret
          exact ⟨one (vint (by omega)), BZ.out⟩
        · rw [if_neg hlt]
          have HS := Lib.hid (show decide ([h', i3, u].sum ≤ q) = true by simp; omega)
          go_enter Try.func108, Try.ntmps108
          go_wp2_with (first
            | ((with_reducible refine box_row (o := ⟨some 2, _, _, _, _, _⟩) rfl _ _ rfl (ldC q u h' nx a n c) rfl ?_); intro w1 hr hb hz; have R1 := Lib.hid hr; have B1 := Lib.hid hb; clear hr hb hz)
            | ((with_reducible refine box_row (o := ⟨some 3, _, _, _, _, _⟩) rfl _ _ rfl [.int .i64 i1, .int .i64 i2, .int .i64 i3, .int .i64 i4, .int .i64 i5, .string sp] rfl ?_); intro w2 hr hb hz; have RH2 := Lib.hid hr; have R12 := Lib.hid (R1.out.below hb R1.out.lt); have B2 := Lib.hid (B1.out.trans (hb.mono B1.out.size)); clear hr hb hz)
            | ((with_reducible refine load_row (o := ⟨some 6, _, _, _, _, _⟩) rfl _ _ rfl w1.heap.size ?_ _ [.int .i64 i1, .int .i64 i2, .int .i64 i3, .int .i64 i4, .int .i64 i5, .string sp] _ RH2.out Try.underlying52 rfl ?_ ?_); (focus go_simp); (focus (exact SZ.out)))
            | (go_at_call 143; (with_reducible refine (HONE.out w2).mono ?_); rw [HOK.out]; rintro x w3 ⟨rfl, hb⟩; have RH3 := Lib.hid (RH2.out.below hb RH2.out.lt); have R13 := Lib.hid (R12.out.below hb R12.out.lt); have BZ := Lib.hid (B2.out.trans (hb.mono B2.out.size)); obtain ⟨c0, c1, c2, c3, c4⟩ := R13.out.l5; obtain ⟨d0, d1, d2, d3, d4, d5⟩ := RH3.out.h6; clear hb)
            | ((with_reducible refine bi3 (o := ⟨some 28, _, _, _, _, _⟩) rfl _ _ _ rfl h' i3 u ?_ ?_ ?_ ?_ ?_ ?_ ?_); (focus (first | (go_simp; done) | (go_simp; rfl))); (focus (first | (go_simp; done) | (go_simp; rfl))); (focus (first | (go_simp; done) | (go_simp; rfl))); (focus (constructor <;> omega)); (focus (constructor <;> omega)); (focus (constructor <;> omega)); intro w4 hsl hb hz; have SL := Lib.hid hsl; have BY := BZ; clear BZ; have BZ := Lib.hid (BY.out.trans (hb.mono BY.out.size)); have R14 := Lib.hid (R13.out.below hb R13.out.lt); clear c0 c1 c2 c3 c4 d0 d1 d2 d3 d4 d5; obtain ⟨c0, c1, c2, c3, c4⟩ := R14.out.l5; clear hsl hb hz)
            | (go_at_call 93; with_reducible refine (lfit q _ 3 3 [h', i3, u] _ SL.out HT.out (by decide) (by decide)).mono ?_; rw [HS.out]; rintro x w' ⟨rfl, rfl⟩))
          go_ret
          exact ⟨one (vint (by omega)), BZ.out⟩
end Go.Proofs.Ytiopcojkdglapaa.W

namespace Go.Proofs.Ytiopcojkdglapaa.W
open Go Go.ChangeShapes Go.WideShapes Go.ChangeAt Go.RowKit
open Go.Proofs.Ytiopcojkdglapaa.P (enc dec)
open Go.Proofs.Ytiopcojkdglapaa.S

set_option maxRecDepth 100000 in
set_option maxHeartbeats 16000000 in
theorem preserve : LdReserveP 49 := by
  intro v l x w h hok hx
  obtain ⟨a, n, c, rfl, h⟩ := h
  have hn8 : n ≤ 8 := by rw [← h.hlen]; exact hok.len
  have hu := hok.u
  have hq := hok.q
  have hh := hok.h
  have hnn := hok.n
  obtain ⟨q, u, h', nx, L⟩ := l
  dsimp only at h hok hu hq hh hnn ⊢
  have LZS := Lib.hid ld_size
  have HSZ := Lib.hid hd_size
  have LZ := Lib.hid ld_zero
  have H := Lib.hid h
  have HL := Lib.hid h.hlen
  have HF := Lib.hid (show ∀ x ∈ L, x.fit from h.hfit)
  have HC := Lib.hid (fun w' h => pown q u h' nx a n c L w' h (by omega))
  have HA := Lib.hid (reserve_ref ⟨q, u, h', nx, L⟩ x)
  obtain ⟨i1, i2, i3, i4, i5, sp⟩ := x
  dsimp only at HA
  have hs : (⟨nx, i2, i3, i4, i5, sp⟩ : Hd).fit := ⟨by constructor <;> dsimp only <;> omega, hx.cl, hx.by', hx.un, hx.ti, hx.sp⟩
  have FX := Lib.hid hs
  have HFN := Lib.hid (show ∀ x ∈ L ++ [(⟨nx, i2, i3, i4, i5, sp⟩ : Hd)], x.fit from fun y hy => by
    rcases List.mem_append.1 hy with hy | hy
    · exact HF.out y hy
    · simp at hy; rw [hy]; exact hs)
  have HREF := Lib.hid (fun w => prefusal q u h' nx a n c L ⟨nx, i2, i3, i4, i5, sp⟩ w h.hlen hok hs)
  obtain ⟨e, he⟩ : ∃ e, Ld.ref ⟨q, u, h', nx, L⟩ ⟨nx, i2, i3, i4, i5, sp⟩ = e := ⟨_, rfl⟩
  have HE := Lib.hid he
  have hnx : e = 0 → nx < 2147483648 ∧ 0 ≤ i3 ∧ i3 ≤ 1099511627776 ∧ n ≤ 7 := fun h0 => by
    rw [h0] at he
    unfold Ld.ref T31 at he
    dsimp only at he
    split at he
    · cases he
    · rename_i h1
      have h1 := (ok_hd.1 (by simpa using h1)).by'
      have h1 : 0 ≤ i3 ∧ i3 ≤ 1099511627776 := h1
      split at he
      · cases he
      · rename_i h2
        rw [h.hlen] at h2
        omega
  rw [HA.out, he]
  clear h hok he hx hs
  by_cases h0 : e = 0
  · obtain ⟨k1, k2, k3, k4⟩ := hnx h0
    subst h0
    clear hnx
    rw [if_pos rfl]
    dsimp only
    go_enter Try.func49, Try.ntmps49
    go_wp2_with (first
      | ((with_reducible refine box_row (o := ⟨some 2, _, _, _, _, _⟩) rfl _ _ rfl (ldC q u h' nx a n c) rfl ?_); intro w1 hr hb hz; have R1 := Lib.hid hr; obtain ⟨c0, c1, c2, c3, c4⟩ := hr.l5; clear c0 c1 c2 c4; have B1 := Lib.hid hb; have B1S := Lib.hid (show w.heap.size < w1.heap.size by omega); clear hr hb hz)
      | ((with_reducible refine box_row (o := ⟨some 3, _, _, _, _, _⟩) rfl _ _ rfl [.int .i64 i1, .int .i64 i2, .int .i64 i3, .int .i64 i4, .int .i64 i5, .string sp] rfl ?_); intro w2 hr hb hz; have RH2 := Lib.hid hr; have R12 := Lib.hid (R1.out.below hb R1.out.lt); have B2 := Lib.hid (B1.out.trans (hb.mono B1.out.size)); have B2S := Lib.hid (show w1.heap.size < w2.heap.size by omega); clear hr hb hz)
      | ((with_reducible refine alloc_row (o := ⟨some 4, _, _, _, _, _⟩) rfl _ rfl _ LZ.out ?_); intro w3 hr hb hz; have R23 := Lib.hid hr; have RH3 := Lib.hid (RH2.out.below hb RH2.out.lt); have R13 := Lib.hid (R12.out.below hb R12.out.lt); clear c3; obtain ⟨c0, c1, c2, c3, c4⟩ := R13.out.l5; clear c0 c1 c2 c4; have B3 := Lib.hid (B2.out.trans (hb.mono B2.out.size)); clear hr hb hz)
      | ((with_reducible refine store_cell (o := ⟨none, _, _, _, _, _⟩) rfl _ (.tmp 10) _ rfl w1.heap.size 0 (.int .i64 nx) ?_ ?_ rfl rfl 52 _ RH3.out ?_ ?_ ?_); (focus go_simp); (focus (go_simp; first | done | rfl)); (focus (kernel_rfl)); (focus (show 0 < 6; decide)); intro w4 hr hu; have RH4 := Lib.hid (show Row w4 w1.heap.size 52 [.int .i64 nx, .int .i64 i2, .int .i64 i3, .int .i64 i4, .int .i64 i5, .string sp] from hr); have R14 := Lib.hid (R13.out.upd hu (Nat.ne_of_lt B1S.out)); have R24 := Lib.hid (R23.out.upd hu (Nat.ne_of_gt B2S.out)); have B4 := Lib.hid (B3.out.trans (hu.below B1.out.size)); clear hr hu c3)
      | ((with_reducible refine load_row (o := ⟨some 11, _, _, _, _, _⟩) rfl _ _ rfl w.heap.size ?_ _ (ldC q u h' nx a n c) _ R14.out Try.underlying50 rfl ?_ ?_); (focus go_simp); (focus (exact LZS.out)))
      | ((with_reducible refine load_row (o := ⟨some 12, _, _, _, _, _⟩) rfl _ _ rfl w1.heap.size ?_ _ ([.int .i64 nx, .int .i64 i2, .int .i64 i3, .int .i64 i4, .int .i64 i5, .string sp]) _ RH4.out Try.underlying52 rfl ?_ ?_); (focus go_simp); (focus (exact HSZ.out)))
      | (go_at_call 108; (with_reducible refine (HREF.out w4).mono ?_); rw [HE.out]; rintro x w5 ⟨rfl, hb⟩; have R15 := Lib.hid (R14.out.below hb R14.out.lt); have RH5 := Lib.hid (RH4.out.below hb RH4.out.lt); have R25 := Lib.hid (R24.out.below hb R24.out.lt); have B5 := Lib.hid (B4.out.trans (hb.mono B4.out.size)); clear hb)
      | ((with_reducible refine load_row (o := ⟨some 19, _, _, _, _, _⟩) rfl _ _ rfl w.heap.size ?_ _ (ldC q u h' nx a n c) _ R15.out Try.underlying50 rfl ?_ ?_); (focus go_simp); (focus (exact LZS.out)))
      | (go_at_call 109; (with_reducible refine (HC.out w5 (H.out.mono hdOk B5.out)).mono ?_); rintro x w6 ⟨a3, c3, rfl, hown, hb⟩; have O6 := Lib.hid hown; have R16 := Lib.hid (R15.out.below hb R15.out.lt); have RH6 := Lib.hid (RH5.out.below hb RH5.out.lt); have R26 := Lib.hid (R25.out.below hb R25.out.lt); have Z6 := Lib.hid hb.size; have B6 := Lib.hid (B5.out.trans (hb.mono B5.out.size)); clear hown hb)
      | ((with_reducible refine store_row (o := ⟨none, _, _, _, _, _⟩) rfl _ (.tmp 2) _ rfl w.heap.size (ldC q u h' nx a3 n c3) ?_ ?_ 50 _ R16.out ?_ ?_ ?_ ?_); (focus go_simp); (focus (first | (go_simp; done) | (go_simp; rfl))); (focus (exact LZS.out)); (focus rfl); (focus (exact ld_one _ _ _ _ _ _ _)); intro w7 hr hu; have R17 := Lib.hid hr; obtain ⟨c0, c1, c2, c3', c4⟩ := hr.l5; have RH7 := Lib.hid (RH6.out.upd hu (Nat.ne_of_gt B1S.out)); have R27 := Lib.hid (R26.out.upd hu (Nat.ne_of_gt (Nat.lt_trans B1S.out B2S.out))); have O7 := Lib.hid (O6.out.upd_lt hu R15.out.lt); have B7 := Lib.hid (B6.out.trans (hu.below (Nat.le_refl _))); have Z7 := Lib.hid (show w5.heap.size ≤ w7.heap.size by have := hu.size; have := Z6.out; omega); clear hr hu)
      | ((with_reducible refine load_row (o := ⟨some 23, _, _, _, _, _⟩) rfl _ _ rfl w1.heap.size ?_ _ ([.int .i64 nx, .int .i64 i2, .int .i64 i3, .int .i64 i4, .int .i64 i5, .string sp]) _ RH7.out Try.underlying52 rfl ?_ ?_); (focus go_simp); (focus (exact HSZ.out)))
      | ((with_reducible refine build_ls hdOk hd_fill (o := ⟨some 24, _, _, _, _, _⟩) rfl _ rfl ⟨nx, i2, i3, i4, i5, sp⟩ ?_ ?_ (by decide) ?_); (focus (first | (go_simp; done) | (go_simp; rfl))); (focus (exact FX.out)); intro w8 hl hb hz; have QB := Lib.hid hl; have R18 := Lib.hid (R17.out.below hb R17.out.lt); have RH8 := Lib.hid (RH7.out.below hb RH7.out.lt); have R28 := Lib.hid (R27.out.below hb R27.out.lt); have O8 := Lib.hid (O7.out.kept hb); have B8 := Lib.hid (B7.out.trans (hb.mono B7.out.size)); have Z8 := Lib.hid (Nat.le_trans Z7.out hb.size); clear hl hb hz c0 c1 c2 c3' c4)
      | ((with_reducible refine append_ls hdOk (o := ⟨some 25, _, _, _, _, _⟩) rfl _ _ rfl w5.heap.size _ L ?_ O8.out _ 1 1 [⟨nx, i2, i3, i4, i5, sp⟩] ?_ QB.out ?_ ?_ ?_); (focus (first | (go_simp; done) | (go_simp; rfl))); (focus (first | (go_simp; done) | (go_simp; rfl))); (focus (rw [HL.out]; omega)); (focus (exact Z8.out)); intro v7 w9 hN hb2 hg2 hv2; have R19 := Lib.hid (R18.out.below hb2 R15.out.lt); have RH9 := Lib.hid (RH8.out.below hb2 RH5.out.lt); have R29 := Lib.hid (R28.out.below hb2 R25.out.lt); have B9 := Lib.hid (B8.out.trans (hb2.mono B5.out.size)); have Z9 := Lib.hid (Nat.le_trans Z8.out hg2.size); obtain ⟨a7, c7, rfl, -, -⟩ := hN.ls hdOk (HFN.out); obtain ⟨nl, hnl⟩ : ∃ m, (L ++ [(⟨nx, i2, i3, i4, i5, sp⟩ : Hd)]).length = m := ⟨_, rfl⟩; rw [hnl] at hN ⊢; have HNL := Lib.hid hnl; have O9 := Lib.hid hN; obtain ⟨c0, c1, c2, c3', c4⟩ := R19.out.l5; clear hN hb2 hg2 hv2 hnl)
      | ((with_reducible refine store_cell (o := ⟨none, _, _, _, _, _⟩) rfl _ (.tmp 26) _ rfl w.heap.size 4 (.slice a7 nl c7) ?_ ?_ rfl rfl 50 _ R19.out ?_ ?_ ?_); (focus go_simp); (focus (go_simp; first | done | rfl | exact vint (by omega))); (focus (kernel_rfl)); (focus (show 4 < 5; decide)); intro wA hr hu; have R1A := Lib.hid (show Row wA w.heap.size 50 (ldC q u h' nx a7 nl c7) from hr); have RHA := Lib.hid (RH9.out.upd hu (Nat.ne_of_gt B1S.out)); have R2A := Lib.hid (R29.out.upd hu (Nat.ne_of_gt (Nat.lt_trans B1S.out B2S.out))); have OA := Lib.hid (O9.out.upd_lt hu R15.out.lt); have BA := Lib.hid (B9.out.trans (hu.below (Nat.le_refl _))); have ZA := Lib.hid (show w5.heap.size ≤ wA.heap.size by have := hu.size; have := Z9.out; omega); clear hr hu c0 c1 c2 c3' c4; obtain ⟨c0, c1, c2, c3', c4⟩ := R1A.out.l5; obtain ⟨d0, d1, d2, d3, d4, d5⟩ := RHA.out.h6; clear d0 d1 d3 d4 d5)
      | ((with_reducible refine store_cell (o := ⟨none, _, _, _, _, _⟩) rfl _ (.tmp 32) _ rfl w.heap.size 2 (.int .i64 (h' + i3)) ?_ ?_ rfl rfl 50 _ R1A.out ?_ ?_ ?_); (focus go_simp); (focus (go_simp; first | done | rfl | exact vint (by omega))); (focus (kernel_rfl)); (focus (show 2 < 5; decide)); intro wB hr hu; have R1B := Lib.hid (show Row wB w.heap.size 50 (ldC q u (h' + i3) nx a7 nl c7) from hr); have RHB := Lib.hid (RHA.out.upd hu (Nat.ne_of_gt B1S.out)); have R2B := Lib.hid (R2A.out.upd hu (Nat.ne_of_gt (Nat.lt_trans B1S.out B2S.out))); have OB := Lib.hid (OA.out.upd_lt hu R15.out.lt); have BB := Lib.hid (BA.out.trans (hu.below (Nat.le_refl _))); have ZB := Lib.hid (show w5.heap.size ≤ wB.heap.size by have := hu.size; have := ZA.out; omega); clear hr hu c0 c1 c2 c3' c4; obtain ⟨c0, c1, c2, c3', c4⟩ := R1B.out.l5; clear d2)
      | ((with_reducible refine store_cell (o := ⟨none, _, _, _, _, _⟩) rfl _ (.tmp 36) _ rfl w.heap.size 3 (.int .i64 (nx + 1)) ?_ ?_ rfl rfl 50 _ R1B.out ?_ ?_ ?_); (focus go_simp); (focus (go_simp; first | done | rfl | exact vint (by omega))); (focus (kernel_rfl)); (focus (show 3 < 5; decide)); intro wC hr hu; have R1C := Lib.hid (show Row wC w.heap.size 50 (ldC q u (h' + i3) (nx + 1) a7 nl c7) from hr); have RHC := Lib.hid (RHB.out.upd hu (Nat.ne_of_gt B1S.out)); have R2C := Lib.hid (R2B.out.upd hu (Nat.ne_of_gt (Nat.lt_trans B1S.out B2S.out))); have OC := Lib.hid (OB.out.upd_lt hu R15.out.lt); have BC := Lib.hid (BB.out.trans (hu.below (Nat.le_refl _))); have ZC := Lib.hid (show w5.heap.size ≤ wC.heap.size by have := hu.size; have := ZB.out; omega); clear hr hu c0 c1 c2 c3' c4; obtain ⟨c0, c1, c2, c3', c4⟩ := R1C.out.l5; obtain ⟨d0, d1, d2, d3, d4, d5⟩ := RHC.out.h6; clear d1 d2 d3 d4 d5))
    refine region_h (fun v => Row v w.heap.size 50 (ldC q u (h' + i3) (nx + 1) a7 nl c7) ∧ Row v w1.heap.size 52 [.int .i64 nx, .int .i64 i2, .int .i64 i3, .int .i64 i4, .int .i64 i5, .string sp]) (by kernel_rfl) (by kernel_rfl) (And.intro (R1C.out.drewN 1) (RHC.out.drewN 1)) ?_
    obtain ⟨wd, hwd⟩ : ∃ wd, wC.drew = wd := ⟨_, rfl⟩
    have D0 : Hid (Below wC.heap.size wC wd) := Lib.hid (by rw [← hwd]; exact (Below.refl _ _).drew)
    rw [hwd]
    clear hwd
    have R1D := Lib.hid (R1C.out.below D0.out R1C.out.lt)
    have RHD := Lib.hid (RHC.out.below D0.out RHC.out.lt)
    have R2D := Lib.hid (R2C.out.below D0.out R2C.out.lt)
    have OD := Lib.hid (OC.out.kept D0.out)
    have BD := Lib.hid (BC.out.trans (D0.out.mono BC.out.size))
    (refine h_read 0 rfl (by kernel_rfl) (by kernel_rfl) (h_free rfl) ?_ ?_ ?_; rotate_left; (focus (intro v hv; refine run_cells 50 (.tmp 2) ?_ w.heap.size 0 ?_ (ldC q u (h' + i3) (nx + 1) a7 nl c7) _ (fun j' u' hj => by rw [Nat.zero_add, hv.1.cellV]; exact hj) Try.underlying50 rfl ld_size; (focus rfl); go_simp)); go_simp)
    (refine h_read 1 rfl (by kernel_rfl) (by kernel_rfl) (h_free rfl) ?_ ?_ ?_; rotate_left; (focus (intro v hv; go_simp; rfl)); go_simp)
    (refine h_read 2 rfl (by kernel_rfl) (by kernel_rfl) (h_free rfl) ?_ ?_ ?_; rotate_left; (focus (intro v hv; have q1 := World.cell?_of_block (a := ⟨w1.heap.size, 0, none⟩) (hv.2.trans RHC.out.symm); rw [d0] at q1; go_simp; rfl)); go_simp)
    (refine h_list 3 rfl (by kernel_rfl) ?_; intro K hK)
    refine store_row rfl _ _ _ rfl w2.heap.size (ldC q u (h' + i3) (nx + 1) a7 nl c7) (by go_simp) (by go_simp) 50 _ R2D.out LZS.out rfl (ld_one _ _ _ _ _ _ _) ?_
    intro wE hr hu
    have R1E := Lib.hid (R1D.out.upd hu (Nat.ne_of_lt (Nat.lt_trans B1S.out B2S.out)))
    have RHE := Lib.hid (RHD.out.upd hu (Nat.ne_of_lt B2S.out))
    have R2E := Lib.hid hr
    have OE := Lib.hid (OD.out.upd_lt hu R25.out.lt)
    have BE := Lib.hid (BD.out.trans (hu.below B2.out.size))
    clear hr hu
    refine hK _ _ ⟨R1E.out, RHE.out⟩ ?_
    go_simp
    (refine h_read 4 rfl (by kernel_rfl) (by kernel_rfl) (h_free rfl) ?_ ?_ ?_; rotate_left; (focus (intro v hv; go_simp; rfl)); go_simp)
    (refine h_read 5 rfl (by kernel_rfl) (by kernel_rfl) (h_free rfl) ?_ ?_ ?_; rotate_left; (focus (intro v hv; go_simp; rfl)); go_simp)
    refine h_done (by kernel_rfl) ?_
    go_wp2_with fail
    exact bodyPost_ret (results_row_tmp2 rfl _ _ w2.heap.size 50 _ _ _ (by go_simp) R2E.out Try.underlying50 rfl LZS.out) rfl ⟨_, rfl, ⟨_, _, _, rfl, (hd_out OE.out HNL.out HFN.out)⟩, BE.out⟩
  · have gb : (e == 0) = false := by simpa using h0
    rw [if_neg h0]
    dsimp only
    clear hnx hu hq hh hnn
    go_enter Try.func49, Try.ntmps49
    go_wp2_with (first
      | ((with_reducible refine box_row (o := ⟨some 2, _, _, _, _, _⟩) rfl _ _ rfl (ldC q u h' nx a n c) rfl ?_); intro w1 hr hb hz; have R1 := Lib.hid hr; obtain ⟨c0, c1, c2, c3, c4⟩ := hr.l5; clear c0 c1 c2 c4; have B1 := Lib.hid hb; have B1S := Lib.hid (show w.heap.size < w1.heap.size by omega); clear hr hb hz)
      | ((with_reducible refine box_row (o := ⟨some 3, _, _, _, _, _⟩) rfl _ _ rfl [.int .i64 i1, .int .i64 i2, .int .i64 i3, .int .i64 i4, .int .i64 i5, .string sp] rfl ?_); intro w2 hr hb hz; have RH2 := Lib.hid hr; have R12 := Lib.hid (R1.out.below hb R1.out.lt); have B2 := Lib.hid (B1.out.trans (hb.mono B1.out.size)); have B2S := Lib.hid (show w1.heap.size < w2.heap.size by omega); clear hr hb hz)
      | ((with_reducible refine alloc_row (o := ⟨some 4, _, _, _, _, _⟩) rfl _ rfl _ LZ.out ?_); intro w3 hr hb hz; have R23 := Lib.hid hr; have RH3 := Lib.hid (RH2.out.below hb RH2.out.lt); have R13 := Lib.hid (R12.out.below hb R12.out.lt); clear c3; obtain ⟨c0, c1, c2, c3, c4⟩ := R13.out.l5; clear c0 c1 c2 c4; have B3 := Lib.hid (B2.out.trans (hb.mono B2.out.size)); clear hr hb hz)
      | ((with_reducible refine store_cell (o := ⟨none, _, _, _, _, _⟩) rfl _ (.tmp 10) _ rfl w1.heap.size 0 (.int .i64 nx) ?_ ?_ rfl rfl 52 _ RH3.out ?_ ?_ ?_); (focus go_simp); (focus (go_simp; first | done | rfl)); (focus (kernel_rfl)); (focus (show 0 < 6; decide)); intro w4 hr hu; have RH4 := Lib.hid (show Row w4 w1.heap.size 52 [.int .i64 nx, .int .i64 i2, .int .i64 i3, .int .i64 i4, .int .i64 i5, .string sp] from hr); have R14 := Lib.hid (R13.out.upd hu (Nat.ne_of_lt B1S.out)); have R24 := Lib.hid (R23.out.upd hu (Nat.ne_of_gt B2S.out)); have B4 := Lib.hid (B3.out.trans (hu.below B1.out.size)); clear hr hu c3)
      | ((with_reducible refine load_row (o := ⟨some 11, _, _, _, _, _⟩) rfl _ _ rfl w.heap.size ?_ _ (ldC q u h' nx a n c) _ R14.out Try.underlying50 rfl ?_ ?_); (focus go_simp); (focus (exact LZS.out)))
      | ((with_reducible refine load_row (o := ⟨some 12, _, _, _, _, _⟩) rfl _ _ rfl w1.heap.size ?_ _ ([.int .i64 nx, .int .i64 i2, .int .i64 i3, .int .i64 i4, .int .i64 i5, .string sp]) _ RH4.out Try.underlying52 rfl ?_ ?_); (focus go_simp); (focus (exact HSZ.out)))
      | (go_at_call 108; (with_reducible refine (HREF.out w4).mono ?_); rw [HE.out]; rintro x w5 ⟨rfl, hb⟩; have R15 := Lib.hid (R14.out.below hb R14.out.lt); have RH5 := Lib.hid (RH4.out.below hb RH4.out.lt); have R25 := Lib.hid (R24.out.below hb R24.out.lt); have B5 := Lib.hid (B4.out.trans (hb.mono B4.out.size)); clear hb)
      | ((with_reducible refine load_row (o := ⟨some 16, _, _, _, _, _⟩) rfl _ _ rfl w.heap.size ?_ _ (ldC q u h' nx a n c) _ R15.out Try.underlying50 rfl ?_ ?_); (focus go_simp); (focus (exact LZS.out)))
      | (go_at_call 109; (with_reducible refine (HC.out w5 (H.out.mono hdOk B5.out)).mono ?_); rintro x w6 ⟨a3, c3, rfl, hown, hb⟩; have O6 := Lib.hid hown; have R16 := Lib.hid (R15.out.below hb R15.out.lt); have RH6 := Lib.hid (RH5.out.below hb RH5.out.lt); have R26 := Lib.hid (R25.out.below hb R25.out.lt); have Z6 := Lib.hid hb.size; have B6 := Lib.hid (B5.out.trans (hb.mono B5.out.size)); clear hown hb)
      | ((with_reducible refine store_row (o := ⟨none, _, _, _, _, _⟩) rfl _ (.tmp 4) _ rfl w2.heap.size (ldC q u h' nx a3 n c3) ?_ ?_ 50 _ R26.out ?_ ?_ ?_ ?_); (focus go_simp); (focus (first | (go_simp; done) | (go_simp; rfl))); (focus (exact LZS.out)); (focus rfl); (focus (exact ld_one _ _ _ _ _ _ _)); intro w7 hr hu; have R27 := Lib.hid hr; have O7 := Lib.hid (O6.out.upd_lt hu R25.out.lt); have B7 := Lib.hid (B6.out.trans (hu.below B2.out.size)); clear hr hu))
    exact bodyPost_ret (results_row_tmp2 rfl _ _ w2.heap.size 50 _ _ _ (by go_simp) R27.out Try.underlying50 rfl LZS.out) rfl ⟨_, rfl, ⟨_, _, _, rfl, (hd_out O7.out HL.out HF.out)⟩, B7.out⟩
end Go.Proofs.Ytiopcojkdglapaa.W
