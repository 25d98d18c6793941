/- LAYER 19 (ledger): Spend, Expire of the program. LAYER 19 (ledger): slices.Equal, Same of the program. -/
import Derived.Test.YtiopcojkdglapaaLdK
import Derived.Test.YtiopcojkdglapaaLdV
import Derived.Test.YtiopcojkdglapaaLdI
set_option linter.unusedSimpArgs false
set_option linter.unusedVariables false
namespace Go.Proofs.Ytiopcojkdglapaa.W
open Go Go.ChangeShapes Go.WideShapes Go.ChangeAt Go.RowKit
open Go.Proofs.Ytiopcojkdglapaa.P (enc dec)
open Go.Proofs.Ytiopcojkdglapaa.S

theorem filter_two {α : Type} (p : α → Bool) : ∀ L : List α, (L.filter p).length + (L.filter (fun s => !p s)).length = L.length
  | [] => rfl
  | s :: L => by
    have ih := filter_two p L
    cases h : p s <;> simp only [List.filter_cons, h, Bool.not_true, Bool.not_false, if_true, if_false, Bool.false_eq_true, List.length_cons] <;> omega
set_option maxRecDepth 100000 in
set_option maxHeartbeats 16000000 in
theorem pspend : LdSpendP 98 := by
  intro v l id b w h hok
  obtain ⟨a, n, c, rfl, h⟩ := h
  have hn8 : n ≤ 8 := by rw [← h.hlen]; exact hok.len
  have hu := hok.u
  have hq := hok.q
  have hh := hok.h
  have hle := hok.le
  have hfb := fun i => found_by (i := i) hok
  obtain ⟨q, u, h', nx, L⟩ := l
  dsimp only at h hok hu hq hh hle ⊢
  have LZS := Lib.hid ld_size
  have LZ := Lib.hid ld_zero
  have H := Lib.hid h
  have HL := Lib.hid h.hlen
  have HF := Lib.hid (h.hfit)
  have HC := Lib.hid (fun w' h => pown q u h' nx a n c L w' h (by omega))
  have HREL := Lib.hid (fun w' (h : Ls hdE w' a n c L) => prelease _ ⟨q, u, h', nx, L⟩ id w' ⟨a, n, c, rfl, h⟩ hok)
  have HFN := Lib.hid (fun w' (hb : Below w.heap.size w w') => pfind _ ⟨q, u, h', nx, L⟩ id w' ⟨a, n, c, rfl, h.mono hdOk hb⟩)
  dsimp only at hfb HFN
  clear h hok
  have HSZ := Lib.hid hd_size
  have MZ := Lib.hid hd_zero
  obtain ⟨hd, bv, hfi⟩ : ∃ d v, findH L id = (d, v) := ⟨_, _, rfl⟩
  have HFI := Lib.hid hfi
  have hb2 : bv = true → 0 ≤ hd.by' ∧ hd.by' ≤ h' := fun e => by have := hfb id; rw [hfi] at this; exact this e
  have HREL0 := Lib.hid (show Ld.release ⟨q, u, h', nx, L⟩ id = if bv = false then (⟨q, u, h', nx, L⟩, 6) else (⟨q, u, h' - hd.by', nx, dropH L id⟩, 0) by unfold Ld.release; dsimp only; rw [hfi])
  have HA := Lib.hid (show Ld.spend ⟨q, u, h', nx, L⟩ id b = if bv = false then (⟨q, u, h', nx, L⟩, 6) else if in64 b 0 hd.by' = false then (⟨q, u, h', nx, L⟩, 14) else ({ (Ld.release ⟨q, u, h', nx, L⟩ id).1 with u := u + b }, 0) by unfold Ld.spend; dsimp only; rw [hfi])
  clear hfi hfb
  rcases bv with _ | _
  · have HR := Lib.hid (show Ld.release ⟨q, u, h', nx, L⟩ id = (⟨q, u, h', nx, L⟩, 6) from HREL0.out)
    rw [HA.out]
    simp only [if_true]
    clear hb2
    go_enter Try.func98, Try.ntmps98
    go_wp2_with (first
      | ((with_reducible refine box_row (o := ⟨some 3, _, _, _, _, _⟩) rfl _ _ rfl (ldC q u h' nx a n c) rfl ?_); intro w1 hr hb hz; have R1 := Lib.hid hr; have B1 := Lib.hid hb; have B1S := Lib.hid (show w.heap.size < w1.heap.size by omega); clear hr hb hz)
      | ((with_reducible refine alloc_row (o := ⟨some 6, _, _, _, _, _⟩) rfl _ rfl _ LZ.out ?_); intro w2 hr hb hz; have R22 := Lib.hid hr; have R12 := Lib.hid (R1.out.below hb R1.out.lt); have B2 := Lib.hid (B1.out.trans (hb.mono B1.out.size)); clear hr hb hz)
      | ((with_reducible refine load_row (o := ⟨some 13, _, _, _, _, _⟩) rfl _ _ rfl w.heap.size ?_ _ (ldC q u h' nx a n c) _ R12.out Try.underlying50 rfl ?_ ?_); (focus go_simp); (focus (exact LZS.out)))
      | (go_at_call 46; (with_reducible refine (HFN.out w2 B2.out).mono ?_); rw [HFI.out]; rintro x w3 ⟨rfl, hb⟩; have R13 := Lib.hid (R12.out.below hb R12.out.lt); have R23 := Lib.hid (R22.out.below hb R22.out.lt); have B3 := Lib.hid (B2.out.trans (hb.mono B2.out.size)); clear hb)
      | ((with_reducible refine alloc_row (o := ⟨some 8, _, _, _, _, _⟩) rfl _ rfl _ MZ.out ?_); intro w4 hr hb hz; have RH4 := Lib.hid hr; have R14 := Lib.hid (R13.out.below hb R13.out.lt); have R24 := Lib.hid (R23.out.below hb R23.out.lt); have B4 := Lib.hid (B3.out.trans (hb.mono B3.out.size)); clear hr hb hz)
      | ((with_reducible refine store_row (o := ⟨none, _, _, _, _, _⟩) rfl _ (.tmp 8) _ rfl w3.heap.size hd.cells ?_ ?_ 52 _ RH4.out ?_ ?_ ?_ ?_); (focus go_simp); (focus (first | (go_simp; done) | (go_simp; rfl))); (focus (exact HSZ.out)); (focus rfl); (focus (exact hd_one hd)); intro w5 hr hu; have R15 := Lib.hid (R14.out.upd hu (Nat.ne_of_lt R13.out.lt)); have R25 := Lib.hid (R24.out.upd hu (Nat.ne_of_lt R23.out.lt)); obtain ⟨d0, d1, d2, d3, d4, d5⟩ := hr.h6; clear d0 d1 d3 d4 d5; have B5 := Lib.hid (B4.out.trans (hu.below B3.out.size)); clear hr hu)
      | ((with_reducible refine load_row (o := ⟨some 29, _, _, _, _, _⟩) rfl _ _ rfl w.heap.size ?_ _ (ldC q u h' nx a n c) _ R15.out Try.underlying50 rfl ?_ ?_); (focus go_simp); (focus (exact LZS.out)))
      | (go_at_call 51; (with_reducible refine (HREL.out w5 (H.out.mono hdOk B5.out)).mono ?_); rw [HR.out]; rintro x w6 ⟨v6, rfl, ⟨a6, n6, c6, rfl, hl⟩, hb⟩; have L6 := Lib.hid hl; have R26 := Lib.hid (R25.out.below hb R25.out.lt); have B6 := Lib.hid (B5.out.trans (hb.mono B5.out.size)); clear hl hb)
      | ((with_reducible refine alloc_row (o := ⟨some 10, _, _, _, _, _⟩) rfl _ rfl _ LZ.out ?_); intro w7 hr hb hz; have RT7 := Lib.hid hr; have R27 := Lib.hid (R26.out.below hb R26.out.lt); have L7 := Lib.hid (L6.out.mono hdOk hb); have B67 := Lib.hid hb; have B7 := Lib.hid (B6.out.trans (hb.mono B6.out.size)); clear hr hb hz)
      | ((with_reducible refine store_row (o := ⟨none, _, _, _, _, _⟩) rfl _ (.tmp 10) _ rfl w6.heap.size (ldC q u h' nx a6 n6 c6) ?_ ?_ 50 _ RT7.out ?_ ?_ ?_ ?_); (focus go_simp); (focus (first | (go_simp; done) | (go_simp; rfl))); (focus (exact LZS.out)); (focus rfl); (focus (exact ld_one _ _ _ _ _ _ _)); intro w8 hr hu; have RT8 := Lib.hid hr; obtain ⟨c0, c1, c2, c3', c4⟩ := hr.l5; clear c0 c2 c3' c4; have R28 := Lib.hid (R27.out.upd hu (Nat.ne_of_lt R26.out.lt)); have B68 := Lib.hid (B67.out.trans (hu.below (Nat.le_refl _))); have B8 := Lib.hid (B7.out.trans (hu.below B6.out.size)); clear hr hu)
      | ((with_reducible refine load_row (o := ⟨some 41, _, _, _, _, _⟩) rfl _ _ rfl w6.heap.size ?_ _ (ldC q u h' nx a6 n6 c6) _ RT8.out Try.underlying50 rfl ?_ ?_); (focus go_simp); (focus (exact LZS.out)))
      | ((with_reducible refine store_row (o := ⟨none, _, _, _, _, _⟩) rfl _ (.tmp 6) _ rfl w1.heap.size (ldC q u h' nx a6 n6 c6) ?_ ?_ 50 _ R28.out ?_ ?_ ?_ ?_); (focus go_simp); (focus (first | (go_simp; done) | (go_simp; rfl))); (focus (exact LZS.out)); (focus rfl); (focus (exact ld_one _ _ _ _ _ _ _)); intro wA hr hu; have R2A := Lib.hid hr; have LA := Lib.hid ((L6.out.mono hdOk B68.out).upd5 R28.out (show 5 ≤ 5 from Nat.le_refl 5) hu); have BA := Lib.hid (B8.out.trans (hu.below B1.out.size)); clear hr hu))
    exact bodyPost_ret (results_row_tmp rfl _ _ w1.heap.size 50 _ _ _ (by go_simp) R2A.out Try.underlying50 rfl LZS.out) rfl ⟨_, rfl, ⟨_, _, _, rfl, LA.out⟩, BA.out⟩
  · have HR := Lib.hid (show Ld.release ⟨q, u, h', nx, L⟩ id = (⟨q, u, h' - hd.by', nx, dropH L id⟩, 0) from HREL0.out)
    rw [HA.out, HR.out]
    simp only [Bool.true_eq_false, if_false]
    have hb := hb2 rfl
    clear hb2
    obtain ⟨bv, hbv⟩ : ∃ v, in64 b 0 hd.by' = v := ⟨_, rfl⟩
    have HB := Lib.hid hbv
    rw [hbv]
    rcases bv with _ | _
    · clear hbv
      simp only [if_true]
      go_enter Try.func98, Try.ntmps98
      go_wp2_with (first
        | ((with_reducible refine box_row (o := ⟨some 3, _, _, _, _, _⟩) rfl _ _ rfl (ldC q u h' nx a n c) rfl ?_); intro w1 hr hb hz; have R1 := Lib.hid hr; have B1 := Lib.hid hb; have B1S := Lib.hid (show w.heap.size < w1.heap.size by omega); clear hr hb hz)
        | ((with_reducible refine alloc_row (o := ⟨some 6, _, _, _, _, _⟩) rfl _ rfl _ LZ.out ?_); intro w2 hr hb hz; have R22 := Lib.hid hr; have R12 := Lib.hid (R1.out.below hb R1.out.lt); have B2 := Lib.hid (B1.out.trans (hb.mono B1.out.size)); clear hr hb hz)
        | ((with_reducible refine load_row (o := ⟨some 13, _, _, _, _, _⟩) rfl _ _ rfl w.heap.size ?_ _ (ldC q u h' nx a n c) _ R12.out Try.underlying50 rfl ?_ ?_); (focus go_simp); (focus (exact LZS.out)))
        | (go_at_call 46; (with_reducible refine (HFN.out w2 B2.out).mono ?_); rw [HFI.out]; rintro x w3 ⟨rfl, hb⟩; have R13 := Lib.hid (R12.out.below hb R12.out.lt); have R23 := Lib.hid (R22.out.below hb R22.out.lt); have B3 := Lib.hid (B2.out.trans (hb.mono B2.out.size)); clear hb)
        | ((with_reducible refine alloc_row (o := ⟨some 8, _, _, _, _, _⟩) rfl _ rfl _ MZ.out ?_); intro w4 hr hb hz; have RH4 := Lib.hid hr; have R14 := Lib.hid (R13.out.below hb R13.out.lt); have R24 := Lib.hid (R23.out.below hb R23.out.lt); have B4 := Lib.hid (B3.out.trans (hb.mono B3.out.size)); clear hr hb hz)
        | ((with_reducible refine store_row (o := ⟨none, _, _, _, _, _⟩) rfl _ (.tmp 8) _ rfl w3.heap.size hd.cells ?_ ?_ 52 _ RH4.out ?_ ?_ ?_ ?_); (focus go_simp); (focus (first | (go_simp; done) | (go_simp; rfl))); (focus (exact HSZ.out)); (focus rfl); (focus (exact hd_one hd)); intro w5 hr hu; have R15 := Lib.hid (R14.out.upd hu (Nat.ne_of_lt R13.out.lt)); have R25 := Lib.hid (R24.out.upd hu (Nat.ne_of_lt R23.out.lt)); obtain ⟨d0, d1, d2, d3, d4, d5⟩ := hr.h6; clear d0 d1 d3 d4 d5; have B5 := Lib.hid (B4.out.trans (hu.below B3.out.size)); clear hr hu)
        | (go_at_call 91; with_reducible refine (pin b 0 hd.by' _ HB.out _).mono ?_; rintro x w' ⟨rfl, rfl⟩)
        | ((with_reducible refine load_row (o := ⟨some 26, _, _, _, _, _⟩) rfl _ _ rfl w.heap.size ?_ _ (ldC q u h' nx a n c) _ R15.out Try.underlying50 rfl ?_ ?_); (focus go_simp); (focus (exact LZS.out)))
        | (go_at_call 109; (with_reducible refine (HC.out w5 (H.out.mono hdOk B5.out)).mono ?_); rintro x w6 ⟨a3, c3, rfl, hown, hb⟩; have O6 := Lib.hid hown; have R26 := Lib.hid (R25.out.below hb R25.out.lt); have B6 := Lib.hid (B5.out.trans (hb.mono B5.out.size)); clear hown hb)
        | ((with_reducible refine store_row (o := ⟨none, _, _, _, _, _⟩) rfl _ (.tmp 6) _ rfl w1.heap.size (ldC q u h' nx a3 n c3) ?_ ?_ 50 _ R26.out ?_ ?_ ?_ ?_); (focus go_simp); (focus (first | (go_simp; done) | (go_simp; rfl))); (focus (exact LZS.out)); (focus rfl); (focus (exact ld_one _ _ _ _ _ _ _)); intro w7 hr hu; have R27 := Lib.hid hr; have O7 := Lib.hid (O6.out.upd_lt hu R25.out.lt); have B7 := Lib.hid (B6.out.trans (hu.below B1.out.size)); clear hr hu))
      exact bodyPost_ret (results_row_tmp rfl _ _ w1.heap.size 50 _ _ _ (by go_simp) R27.out Try.underlying50 rfl LZS.out) rfl ⟨_, rfl, ⟨_, _, _, rfl, (hd_out O7.out HL.out HF.out)⟩, B7.out⟩
    · have hbb := in64_iff.1 hbv
      clear hbv
      simp only [Bool.true_eq_false, if_false]
      go_enter Try.func98, Try.ntmps98
      go_wp2_with (first
        | ((with_reducible refine box_row (o := ⟨some 3, _, _, _, _, _⟩) rfl _ _ rfl (ldC q u h' nx a n c) rfl ?_); intro w1 hr hb hz; have R1 := Lib.hid hr; have B1 := Lib.hid hb; have B1S := Lib.hid (show w.heap.size < w1.heap.size by omega); clear hr hb hz)
        | ((with_reducible refine alloc_row (o := ⟨some 6, _, _, _, _, _⟩) rfl _ rfl _ LZ.out ?_); intro w2 hr hb hz; have R22 := Lib.hid hr; have R12 := Lib.hid (R1.out.below hb R1.out.lt); have B2 := Lib.hid (B1.out.trans (hb.mono B1.out.size)); clear hr hb hz)
        | ((with_reducible refine load_row (o := ⟨some 13, _, _, _, _, _⟩) rfl _ _ rfl w.heap.size ?_ _ (ldC q u h' nx a n c) _ R12.out Try.underlying50 rfl ?_ ?_); (focus go_simp); (focus (exact LZS.out)))
        | (go_at_call 46; (with_reducible refine (HFN.out w2 B2.out).mono ?_); rw [HFI.out]; rintro x w3 ⟨rfl, hb⟩; have R13 := Lib.hid (R12.out.below hb R12.out.lt); have R23 := Lib.hid (R22.out.below hb R22.out.lt); have B3 := Lib.hid (B2.out.trans (hb.mono B2.out.size)); clear hb)
        | ((with_reducible refine alloc_row (o := ⟨some 8, _, _, _, _, _⟩) rfl _ rfl _ MZ.out ?_); intro w4 hr hb hz; have RH4 := Lib.hid hr; have R14 := Lib.hid (R13.out.below hb R13.out.lt); have R24 := Lib.hid (R23.out.below hb R23.out.lt); have B4 := Lib.hid (B3.out.trans (hb.mono B3.out.size)); clear hr hb hz)
        | ((with_reducible refine store_row (o := ⟨none, _, _, _, _, _⟩) rfl _ (.tmp 8) _ rfl w3.heap.size hd.cells ?_ ?_ 52 _ RH4.out ?_ ?_ ?_ ?_); (focus go_simp); (focus (first | (go_simp; done) | (go_simp; rfl))); (focus (exact HSZ.out)); (focus rfl); (focus (exact hd_one hd)); intro w5 hr hu; have R15 := Lib.hid (R14.out.upd hu (Nat.ne_of_lt R13.out.lt)); have R25 := Lib.hid (R24.out.upd hu (Nat.ne_of_lt R23.out.lt)); obtain ⟨d0, d1, d2, d3, d4, d5⟩ := hr.h6; clear d0 d1 d3 d4 d5; have B5 := Lib.hid (B4.out.trans (hu.below B3.out.size)); clear hr hu)
        | (go_at_call 91; with_reducible refine (pin b 0 hd.by' _ HB.out _).mono ?_; rintro x w' ⟨rfl, rfl⟩)
        | ((with_reducible refine load_row (o := ⟨some 29, _, _, _, _, _⟩) rfl _ _ rfl w.heap.size ?_ _ (ldC q u h' nx a n c) _ R15.out Try.underlying50 rfl ?_ ?_); (focus go_simp); (focus (exact LZS.out)))
        | (go_at_call 51; (with_reducible refine (HREL.out w5 (H.out.mono hdOk B5.out)).mono ?_); rw [HR.out]; rintro x w6 ⟨v6, rfl, ⟨a6, n6, c6, rfl, hl⟩, hb⟩; have L6 := Lib.hid hl; have R26 := Lib.hid (R25.out.below hb R25.out.lt); have B6 := Lib.hid (B5.out.trans (hb.mono B5.out.size)); clear hl hb)
        | ((with_reducible refine alloc_row (o := ⟨some 10, _, _, _, _, _⟩) rfl _ rfl _ LZ.out ?_); intro w7 hr hb hz; have RT7 := Lib.hid hr; have R27 := Lib.hid (R26.out.below hb R26.out.lt); have L7 := Lib.hid (L6.out.mono hdOk hb); have B67 := Lib.hid hb; have B7 := Lib.hid (B6.out.trans (hb.mono B6.out.size)); clear hr hb hz)
        | ((with_reducible refine store_row (o := ⟨none, _, _, _, _, _⟩) rfl _ (.tmp 10) _ rfl w6.heap.size (ldC q u (h' - hd.by') nx a6 n6 c6) ?_ ?_ 50 _ RT7.out ?_ ?_ ?_ ?_); (focus go_simp); (focus (first | (go_simp; done) | (go_simp; rfl))); (focus (exact LZS.out)); (focus rfl); (focus (exact ld_one _ _ _ _ _ _ _)); intro w8 hr hu; have RT8 := Lib.hid hr; obtain ⟨c0, c1, c2, c3', c4⟩ := hr.l5; clear c0 c2 c3' c4; have R28 := Lib.hid (R27.out.upd hu (Nat.ne_of_lt R26.out.lt)); have B68 := Lib.hid (B67.out.trans (hu.below (Nat.le_refl _))); have B8 := Lib.hid (B7.out.trans (hu.below B6.out.size)); clear hr hu)
        | ((with_reducible refine store_cell (o := ⟨none, _, _, _, _, _⟩) rfl _ (.tmp 40) _ rfl w6.heap.size 1 (.int .i64 (u + b)) ?_ ?_ rfl rfl 50 _ RT8.out ?_ ?_ ?_); (focus go_simp); (focus (go_simp; first | done | rfl | exact vint (by omega))); (focus (kernel_rfl)); (focus (show 1 < 5; decide)); intro w9 hr hu; have RT9 := Lib.hid (show Row w9 w6.heap.size 50 (ldC q (u + b) (h' - hd.by') nx a6 n6 c6) from hr); have R29 := Lib.hid (R28.out.upd hu (Nat.ne_of_lt R26.out.lt)); have B69 := Lib.hid (B68.out.trans (hu.below (Nat.le_refl _))); have B9 := Lib.hid (B8.out.trans (hu.below B6.out.size)); clear hr hu)
        | ((with_reducible refine load_row (o := ⟨some 41, _, _, _, _, _⟩) rfl _ _ rfl w6.heap.size ?_ _ (ldC q (u + b) (h' - hd.by') nx a6 n6 c6) _ RT9.out Try.underlying50 rfl ?_ ?_); (focus go_simp); (focus (exact LZS.out)))
        | ((with_reducible refine store_row (o := ⟨none, _, _, _, _, _⟩) rfl _ (.tmp 6) _ rfl w1.heap.size (ldC q (u + b) (h' - hd.by') nx a6 n6 c6) ?_ ?_ 50 _ R29.out ?_ ?_ ?_ ?_); (focus go_simp); (focus (first | (go_simp; done) | (go_simp; rfl))); (focus (exact LZS.out)); (focus rfl); (focus (exact ld_one _ _ _ _ _ _ _)); intro wA hr hu; have R2A := Lib.hid hr; have LA := Lib.hid ((L6.out.mono hdOk B69.out).upd5 R29.out (show 5 ≤ 5 from Nat.le_refl 5) hu); have BA := Lib.hid (B9.out.trans (hu.below B1.out.size)); clear hr hu))
      exact bodyPost_ret (results_row_tmp rfl _ _ w1.heap.size 50 _ _ _ (by go_simp) R2A.out Try.underlying50 rfl LZS.out) rfl ⟨_, rfl, ⟨_, _, _, rfl, LA.out⟩, BA.out⟩
set_option maxRecDepth 100000 in
set_option maxHeartbeats 16000000 in
theorem pexpire : LdExpireP 104 := by
  intro v l b w h hok
  obtain ⟨a, n, c, rfl, h⟩ := h
  have hn8 : n ≤ 8 := by rw [← h.hlen]; exact hok.len
  have hu := hok.u
  have hq := hok.q
  have hh := hok.h
  have hle := hok.le
  have hmem := fun s hs => (chkH_mem l.L none hok.hs s hs).1.by'
  have hsum := hok.sum
  obtain ⟨q, u, h', nx, L⟩ := l
  dsimp only at h hok hu hq hh hle ⊢
  have LZS := Lib.hid ld_size
  have LZ := Lib.hid ld_zero
  have H := Lib.hid h
  have HL := Lib.hid h.hlen
  have HF := Lib.hid (h.hfit)
  have HC := Lib.hid (fun w' h => pown q u h' nx a n c L w' h (by omega))
  clear HC
  have HMEM := Lib.hid (show ∀ s ∈ L, 0 ≤ s.by' ∧ s.by' ≤ 1099511627776 from hmem)
  have HSUM := Lib.hid (show sumH L = h' from hsum)
  have HSZ := Lib.hid hd_size
  have MZ := Lib.hid hd_zero
  have hm := h.hmax
  have hlc := h.hle
  clear h hok hmem hsum
  unfold Ld.expire
  dsimp only
  go_enter Try.func104, Try.ntmps104
  go_wp2_with (first
    | ((with_reducible refine box_row (o := ⟨some 2, _, _, _, _, _⟩) rfl _ _ rfl (ldC q u h' nx a n c) rfl ?_); intro w1 hr hb hz; have R1 := Lib.hid hr; have B1 := Lib.hid hb; have B1S := Lib.hid (show w.heap.size < w1.heap.size by omega); clear hr hb hz)
    | ((with_reducible refine alloc_row (o := ⟨some 4, _, _, _, _, _⟩) rfl _ rfl _ LZ.out ?_); intro w2 hr hb hz; have R22 := Lib.hid hr; have R12 := Lib.hid (R1.out.below hb R1.out.lt); obtain ⟨c0, c1, c2, c3', c4⟩ := R12.out.l5; clear c0 c1 c2 c3'; have B2 := Lib.hid (B1.out.trans (hb.mono B1.out.size)); clear hr hb hz))
  clear c4
  go_loopw [6, 13] (fun vs i wr => ∃ (k : Nat), i = .int .i64 (k : Int) ∧ k ≤ n ∧ Hid (LsO hdE wr w2.heap.size vs ((L.take k).filter (fun s => !decide (s.un < b)))) ∧ Hid (Row wr w.heap.size 50 (ldC q u (h' - sumH ((L.take k).filter (fun s => decide (s.un < b)))) nx a n c)) ∧ Hid (Row wr w1.heap.size 50 (ldC 0 0 0 0 none 0 0)) ∧ Hid (Below w.heap.size w wr) ∧ Hid (w2.heap.size ≤ wr.heap.size)) (fun _ i _ => n - (intOf i).toNat)
  case atStart => exact ⟨0, rfl, Nat.zero_le _, Lib.hid (LsO.nil _ _), Lib.hid (by rw [show h' - sumH ((L.take 0).filter (fun s => decide (s.un < b))) = h' by simp [sumH]]; exact R12.out), R22, B2, Lib.hid (Nat.le_refl _)⟩
  case round =>
    obtain ⟨k, rfl, hk, M, RW, R2w, B, Z⟩ := hrel
    obtain ⟨sk, hsk⟩ : ∃ s, sumH ((L.take k).filter (fun s => decide (s.un < b))) = s := ⟨_, rfl⟩
    obtain ⟨Mk, hMk⟩ : ∃ s, (L.take k).filter (fun s => !decide (s.un < b)) = s := ⟨_, rfl⟩
    have hskb : 0 ≤ sk ∧ sk ≤ 8 * 1099511627776 := by
      have h1 := sumH_bd ((L.take k).filter (fun s => decide (s.un < b))) (fun s hs => HMEM.out s ((List.take_sublist k L).subset (List.filter_sublist.subset hs)))
      have h2 : ((L.take k).filter (fun s => decide (s.un < b))).length ≤ 8 := by
        have := List.length_filter_le (fun s : Hd => decide (s.un < b)) (L.take k)
        rw [List.length_take, HL.out] at this; omega
      rw [hsk] at h1
      omega
    have hMkb : Mk.length ≤ 8 := by
      rw [← hMk]
      have := List.length_filter_le (fun s : Hd => !decide (s.un < b)) (L.take k)
      rw [List.length_take, HL.out] at this; omega
    rw [hsk] at RW
    rw [hMk] at M
    have HSK := Lib.hid hsk
    have HMK := Lib.hid hMk
    have HMB := Lib.hid hMkb
    clear hsk hMk hMkb
    obtain ⟨c0, c1, c2, c3', c4⟩ := RW.out.l5
    by_cases hlt : k < n
    · obtain ⟨ba, off, x, e3, hx, hcell, hfx⟩ := H.out.at hdOk B.out k hlt
      subst e3
      obtain ⟨i1, i2, i3, i4, i5, sp⟩ := x
      have XC := Lib.hid hcell
      have FX := Lib.hid hfx
      have hkl : k < L.length := by rw [HL.out]; exact hlt
      have hge : L[k] = ⟨i1, i2, i3, i4, i5, sp⟩ := by rw [List.getElem?_eq_getElem hkl] at hx; exact Option.some.inj hx
      have hib : 0 ≤ i3 ∧ i3 ≤ 1099511627776 := by have := HMEM.out L[k] (List.getElem_mem hkl); rw [hge] at this; exact this
      have htk : L.take (k + 1) = L.take k ++ [⟨i1, i2, i3, i4, i5, sp⟩] := by rw [List.take_succ_eq_append_getElem hkl, hge]
      have g1 : (0 : Int) ≤ (k : Int) := by omega
      have g2 : (k : Int) < (n : Int) := by omega
      clear hx hcell hfx c0 c1 c2 c3' c4 hge
      by_cases hlt2 : i4 < b
      · have HN1 := Lib.hid (show sumH ((L.take (k + 1)).filter (fun s => decide (s.un < b))) = sk + i3 by rw [htk, List.filter_append, sumH_app, HSK.out]; simp [hlt2, sumH])
        have HN2 := Lib.hid (show (L.take (k + 1)).filter (fun s => !decide (s.un < b)) = Mk by rw [htk, List.filter_append, HMK.out]; simp [hlt2])
        have hwr : IntKind.i64.wrap (h' - sk - i3) = h' - sk - i3 := by rw [IntKind.wrap_i64]; omega
        clear htk
        go_wp2_with (first
          | ((with_reducible refine load_cells (o := ⟨some 16, _, _, _, _, _⟩) rfl _ _ rfl ba (off + k * 6) ?_ [.int .i64 i1, .int .i64 i2, .int .i64 i3, .int .i64 i4, .int .i64 i5, .string sp] _ XC.out Try.underlying52 rfl ?_ ?_); (focus go_simp); (focus (exact HSZ.out)))
          | ((with_reducible refine alloc_row (o := ⟨some 8, _, _, _, _, _⟩) rfl _ rfl _ MZ.out ?_); intro w5 hr hb hz; have RH5 := Lib.hid hr; have RL5 := Lib.hid (RW.out.below hb RW.out.lt); have R25 := Lib.hid (R2w.out.below hb R2w.out.lt); have M5 := Lib.hid (M.out.kept hb); have Z5 := Lib.hid (Nat.le_trans Z.out hb.size); have B5 := Lib.hid (B.out.trans (hb.mono B.out.size)); clear hr hb hz)
          | ((with_reducible refine store_row (o := ⟨none, _, _, _, _, _⟩) rfl _ (.tmp 8) _ rfl wr.heap.size [.int .i64 i1, .int .i64 i2, .int .i64 i3, .int .i64 i4, .int .i64 i5, .string sp] ?_ ?_ 52 _ RH5.out ?_ ?_ ?_ ?_); (focus go_simp); (focus (first | (go_simp; done) | (go_simp; rfl))); (focus (exact HSZ.out)); (focus rfl); (focus (exact hd_one ⟨i1, i2, i3, i4, i5, sp⟩)); intro w6 hr hu; have RH6 := Lib.hid hr; have RL6 := Lib.hid (RL5.out.upd hu (Nat.ne_of_lt RW.out.lt)); have R26 := Lib.hid (R25.out.upd hu (Nat.ne_of_lt R2w.out.lt)); have M6 := Lib.hid (M5.out.upd hu (fun e => Nat.lt_irrefl _ (World.ownsRow.lt M.out _ e).2)); have Z6 := Lib.hid (show w2.heap.size ≤ w6.heap.size by have := hu.size; have := Z5.out; omega); have B6 := Lib.hid (B5.out.trans (hu.below B.out.size)); obtain ⟨c0, c1, c2, c3', c4⟩ := RL6.out.l5; obtain ⟨d0, d1, d2, d3, d4, d5⟩ := hr.h6; clear hr hu)
          | ((with_reducible refine store_cell (o := ⟨none, _, _, _, _, _⟩) rfl _ (.tmp 26) _ rfl w.heap.size 2 (.int .i64 (h' - sk - i3)) ?_ ?_ rfl rfl 50 _ RL6.out ?_ ?_ ?_); (focus go_simp); (focus (go_simp; first | done | rfl | exact vint (by omega))); (focus (kernel_rfl)); (focus (show 2 < 5; decide)); intro w7 hr hu; have RL7 := Lib.hid (show Row w7 w.heap.size 50 (ldC q u (h' - sk - i3) nx (some ⟨ba, off, none⟩) n c) from hr); have R27 := Lib.hid (R26.out.upd hu (Nat.ne_of_gt B1S.out)); have M7 := Lib.hid (M6.out.upd_lt hu R12.out.lt); have Z7 := Lib.hid (show w2.heap.size ≤ w7.heap.size by have := hu.size; have := Z6.out; omega); have B7 := Lib.hid (B6.out.trans (hu.below (Nat.le_refl _))); clear c0 c1 c2 c3' c4 d0 d1 d2 d3 d4 d5 hr hu))
        go_roundw
        case rel => exact ⟨k + 1, vint (by omega), by omega, by (rw [HN2.out]; exact M7), by (rw [HN1.out]; rw [show h' - (sk + i3) = h' - sk - i3 by omega]; exact RL7), R27, B7, Z7⟩
        case measure => simp [intOf]; omega
      · have HN1 := Lib.hid (show sumH ((L.take (k + 1)).filter (fun s => decide (s.un < b))) = sk by rw [htk, List.filter_append, sumH_app, HSK.out]; simp [hlt2, sumH])
        have HN2 := Lib.hid (show (L.take (k + 1)).filter (fun s => !decide (s.un < b)) = Mk ++ [⟨i1, i2, i3, i4, i5, sp⟩] by rw [htk, List.filter_append, HMK.out]; simp [hlt2])
        clear htk
        go_wp2_with (first
          | ((with_reducible refine load_cells (o := ⟨some 16, _, _, _, _, _⟩) rfl _ _ rfl ba (off + k * 6) ?_ [.int .i64 i1, .int .i64 i2, .int .i64 i3, .int .i64 i4, .int .i64 i5, .string sp] _ XC.out Try.underlying52 rfl ?_ ?_); (focus go_simp); (focus (exact HSZ.out)))
          | ((with_reducible refine alloc_row (o := ⟨some 8, _, _, _, _, _⟩) rfl _ rfl _ MZ.out ?_); intro w5 hr hb hz; have RH5 := Lib.hid hr; have RL5 := Lib.hid (RW.out.below hb RW.out.lt); have R25 := Lib.hid (R2w.out.below hb R2w.out.lt); have M5 := Lib.hid (M.out.kept hb); have Z5 := Lib.hid (Nat.le_trans Z.out hb.size); have B5 := Lib.hid (B.out.trans (hb.mono B.out.size)); clear hr hb hz)
          | ((with_reducible refine store_row (o := ⟨none, _, _, _, _, _⟩) rfl _ (.tmp 8) _ rfl wr.heap.size [.int .i64 i1, .int .i64 i2, .int .i64 i3, .int .i64 i4, .int .i64 i5, .string sp] ?_ ?_ 52 _ RH5.out ?_ ?_ ?_ ?_); (focus go_simp); (focus (first | (go_simp; done) | (go_simp; rfl))); (focus (exact HSZ.out)); (focus rfl); (focus (exact hd_one ⟨i1, i2, i3, i4, i5, sp⟩)); intro w6 hr hu; have RH6 := Lib.hid hr; have RL6 := Lib.hid (RL5.out.upd hu (Nat.ne_of_lt RW.out.lt)); have R26 := Lib.hid (R25.out.upd hu (Nat.ne_of_lt R2w.out.lt)); have M6 := Lib.hid (M5.out.upd hu (fun e => Nat.lt_irrefl _ (World.ownsRow.lt M.out _ e).2)); have Z6 := Lib.hid (show w2.heap.size ≤ w6.heap.size by have := hu.size; have := Z5.out; omega); have B6 := Lib.hid (B5.out.trans (hu.below B.out.size)); obtain ⟨c0, c1, c2, c3', c4⟩ := RL6.out.l5; obtain ⟨d0, d1, d2, d3, d4, d5⟩ := hr.h6; clear hr hu)
          | ((with_reducible refine load_row (o := ⟨some 28, _, _, _, _, _⟩) rfl _ _ rfl wr.heap.size ?_ _ [.int .i64 i1, .int .i64 i2, .int .i64 i3, .int .i64 i4, .int .i64 i5, .string sp] _ RH6.out Try.underlying52 rfl ?_ ?_); (focus go_simp); (focus (exact HSZ.out)))
          | ((with_reducible refine build_ls hdOk hd_fill (o := ⟨some 29, _, _, _, _, _⟩) rfl _ rfl ⟨i1, i2, i3, i4, i5, sp⟩ ?_ ?_ (by decide) ?_); (focus (first | (go_simp; done) | (go_simp; rfl))); (focus (exact FX.out)); intro w7 hl hb hz; have QB := Lib.hid hl; have RL7 := Lib.hid (RL6.out.below hb RL6.out.lt); have R27 := Lib.hid (R26.out.below hb R26.out.lt); have M7 := Lib.hid (M6.out.kept hb); have Z7 := Lib.hid (Nat.le_trans Z6.out hb.size); have B7 := Lib.hid (B6.out.trans (hb.mono B6.out.size)); clear hl hb hz c0 c1 c2 c3' c4 d0 d1 d2 d3 d4 d5)
          | ((with_reducible refine append_ls hdOk (o := ⟨some 30, _, _, _, _, _⟩) rfl _ _ rfl w2.heap.size _ Mk ?_ M7.out _ 1 1 [⟨i1, i2, i3, i4, i5, sp⟩] ?_ QB.out ?_ ?_ ?_); (focus (first | (go_simp; done) | (go_simp; rfl))); (focus (first | (go_simp; done) | (go_simp; rfl))); (focus (have := HMB.out; omega)); (focus (exact Z7.out)); intro v2 w8 hN hb2 hg2 hv2; have M8 := Lib.hid hN; have RL8 := Lib.hid (RL7.out.below hb2 R12.out.lt); have R28 := Lib.hid (R27.out.below hb2 R22.out.lt); have Z8 := Lib.hid (Nat.le_trans Z7.out hg2.size); have B8 := Lib.hid (B7.out.trans (hb2.mono B2.out.size)); clear hN hb2 hg2 hv2))
        go_roundw
        case rel => exact ⟨k + 1, vint (by omega), by omega, by (rw [HN2.out]; exact M8), by (rw [HN1.out]; exact RL8), R28, B8, Z8⟩
        case measure => simp [intOf]; omega
    · obtain rfl : n = k := by omega
      have ht : L.take n = L := List.take_of_length_le (by rw [HL.out]; exact Nat.le_refl _)
      have hS := HSK.out
      have hM := HMK.out
      rw [ht] at hS hM
      have HCN := Lib.hid (show ((L.filter (fun s => decide (s.un < b))).length : Int) = (n : Int) - (Mk.length : Int) by
        have := filter_two (fun s : Hd => decide (s.un < b)) L
        rw [hM, HL.out] at this; omega)
      have HS := Lib.hid hS
      have HMM := Lib.hid hM
      have HFM := Lib.hid (show ∀ x ∈ Mk, x.fit from fun x hx => by rw [← hM] at hx; exact HF.out x (List.filter_sublist.subset hx))
      obtain ⟨a9, c9, rfl, -, -⟩ := M.out.ls hdOk HFM.out
      obtain ⟨ml, hml⟩ : ∃ m, Mk.length = m := ⟨_, rfl⟩
      rw [hml] at M HCN ⊢
      have hmb : ml ≤ 8 := by rw [← hml]; exact HMB.out
      have HML := Lib.hid hml
      clear ht hS hM hml HSK HMK
      go_wp2_with (first
        | ((with_reducible refine store_cell (o := ⟨none, _, _, _, _, _⟩) rfl _ (.tmp 39) _ rfl w.heap.size 4 (.slice a9 ml c9) ?_ ?_ rfl rfl 50 _ RW.out ?_ ?_ ?_); (focus go_simp); (focus (go_simp; first | done | rfl)); (focus (kernel_rfl)); (focus (show 4 < 5; decide)); intro w5 hr hu; have RL5 := Lib.hid (show Row w5 w.heap.size 50 (ldC q u (h' - sk) nx a9 ml c9) from hr); have R25 := Lib.hid (R2w.out.upd hu (Nat.ne_of_gt B1S.out)); have M5 := Lib.hid (M.out.upd_lt hu R12.out.lt); have B5 := Lib.hid (B.out.trans (hu.below (Nat.le_refl _))); clear c0 c1 c2 c3' c4 hr hu)
        | ((with_reducible refine load_row (o := ⟨some 40, _, _, _, _, _⟩) rfl _ _ rfl w.heap.size ?_ _ (ldC q u (h' - sk) nx a9 ml c9) _ RL5.out Try.underlying50 rfl ?_ ?_); (focus go_simp); (focus (exact LZS.out)))
        | ((with_reducible refine store_row (o := ⟨none, _, _, _, _, _⟩) rfl _ (.tmp 4) _ rfl w1.heap.size (ldC q u (h' - sk) nx a9 ml c9) ?_ ?_ 50 _ R25.out ?_ ?_ ?_ ?_); (focus go_simp); (focus (first | (go_simp; done) | (go_simp; rfl))); (focus (exact LZS.out)); (focus rfl); (focus (exact ld_one _ _ _ _ _ _ _)); intro w6 hr hu; have R26 := Lib.hid hr; have M6 := Lib.hid (M5.out.upd_lt hu R22.out.lt); have B6 := Lib.hid (B5.out.trans (hu.below B1.out.size)); clear hr hu))
      exact bodyPost_ret (results_row_tmp rfl _ _ w1.heap.size 50 _ _ _ (by go_simp) R26.out Try.underlying50 rfl LZS.out) rfl ⟨_, by rw [HCN.out]; rfl, ⟨_, _, _, (by rw [HS.out]), (by rw [HMM.out]; exact hd_out M6.out HML.out HFM.out)⟩, B6.out⟩
theorem ldp : LdP := ⟨preserve, prelease, pspend, pfree, pquota, pexpire⟩
end Go.Proofs.Ytiopcojkdglapaa.W

namespace Go.Proofs.Ytiopcojkdglapaa.W
open Go Go.ChangeShapes Go.WideShapes Go.ChangeAt Go.RowKit
open Go.Proofs.Ytiopcojkdglapaa.P (enc dec)
open Go.Proofs.Ytiopcojkdglapaa.S

set_option maxRecDepth 100000 in
set_option maxHeartbeats 16000000 in
theorem hdequal (a a' : Option Addr) (n c n' c' : Nat) (L M : List Hd) (w : World) (V : Bool) (h1 : Ls hdE w a n c L) (h2 : Ls hdE w a' n' c' M) (hV : V = true ↔ L = M) :
    Calls Try.prog 48 #[.slice a n c, .slice a' n' c'] w fun x w' => x = .returned (.bool V) ∧ Below w.heap.size w w' := by
  have H1 := Lib.hid h1
  have H2 := Lib.hid h2
  have L1 := Lib.hid h1.hlen
  have L2 := Lib.hid h2.hlen
  have HV := Lib.hid hV
  have hm := h1.hmax
  have hle := h1.hle
  have SZ := Lib.hid hd_size
  clear h1 h2 hV
  by_cases hn : n = n'
  case neg =>
    have HF := Lib.hid (show V = false by
      cases hh : V with
      | false => rfl
      | true => exact absurd (by rw [← L1.out, ← L2.out, HV.out.1 hh]) hn)
    have gn : ((n : Int) == (n' : Int)) = false := beq_eq_false_iff_ne.2 (by omega)
    have gm : ¬ ((n : Int) = (n' : Int)) := by omega
    clear HV
    go_enter Try.func48, Try.ntmps48
    go_wp2_with fail
    go_ret
    exact ⟨one (vbool (by rw [HF.out])), Below.refl _ _⟩
  subst hn
  go_enter Try.func48, Try.ntmps48
  go_wp2_with fail
  go_loopw [13] (fun i wr => ∃ k : Nat, i = .int .i64 (k : Int) ∧ k ≤ n ∧ Hid (L.take k = M.take k) ∧ Hid (Below w.heap.size w wr)) (fun i _ => n - (intOf i).toNat)
  case atStart => exact ⟨0, rfl, Nat.zero_le _, Lib.hid rfl, Lib.hid (Below.refl _ _)⟩
  case round =>
    obtain ⟨k, rfl, hk, P, B⟩ := hrel
    by_cases hlt : k < n
    · obtain ⟨b, o, x, rfl, hx1, hc1, -⟩ := H1.out.at hdOk B.out k hlt
      obtain ⟨b', o', y, rfl, hx2, hc2, -⟩ := H2.out.at hdOk B.out k hlt
      have g1 : (0 : Int) ≤ (k : Int) := by omega
      have g2 : (k : Int) < (n : Int) := by omega
      by_cases hxy : x = y
      · subst hxy
        have HN := Lib.hid (hd_next L M k x hx1 hx2 P.out)
        obtain ⟨x1, x2, x3, x4, x5, xs⟩ := x
        have X1 := Lib.hid hc1
        have X2 := Lib.hid hc2
        clear hc1 hc2 hx1 hx2
        go_wp2_with fail
        refine region_h (fun v => Below wr.heap.size wr v) (by kernel_rfl) (by kernel_rfl) (Below.refl _ _).drew ?_
        obtain ⟨wd, hwd⟩ : ∃ wd, wr.drew = wd := ⟨_, rfl⟩
        have D0 : Hid (Below wr.heap.size wr wd) := Lib.hid (by rw [← hwd]; exact (Below.refl _ _).drew)
        rw [hwd]
        clear hwd
        (refine h_read 0 rfl (by kernel_rfl) (by kernel_rfl) (h_free rfl) ?_ ?_ ?_; rotate_left; (focus (intro v hv; go_simp; rfl)); go_simp)
        (refine h_read 1 rfl (by kernel_rfl) (by kernel_rfl) (h_free rfl) ?_ ?_ ?_; rotate_left; (focus (intro v hv; go_simp; rfl)); go_simp)
        (refine h_read 2 rfl (by kernel_rfl) (by kernel_rfl) (h_free rfl) ?_ ?_ ?_; rotate_left; (focus (intro v hv; go_simp; rfl)); go_simp)
        (refine h_read 3 rfl (by kernel_rfl) (by kernel_rfl) (h_free rfl) ?_ ?_ ?_; rotate_left; (focus (intro v hv; refine run_cells 52 (.tmp 18) ?_ b (o + k * 6) ?_ [.int .i64 x1, .int .i64 x2, .int .i64 x3, .int .i64 x4, .int .i64 x5, .string xs] _ (fun j' u hj => by rw [hv.cell (p := ⟨b, o + k * 6 + j', none⟩) (World.block_lt_of_cell? wr _ (X1.out j' u hj))]; exact X1.out j' u hj) Try.underlying52 rfl hd_size; (focus rfl); go_simp)); go_simp)
        (refine h_read 4 rfl (by kernel_rfl) (by kernel_rfl) (h_free rfl) ?_ ?_ ?_; rotate_left; (focus (intro v hv; go_simp; rfl)); go_simp)
        (refine h_read 5 rfl (by kernel_rfl) (by kernel_rfl) (h_free rfl) ?_ ?_ ?_; rotate_left; (focus (intro v hv; go_simp; rfl)); go_simp)
        (refine h_read 6 rfl (by kernel_rfl) (by kernel_rfl) (h_free rfl) ?_ ?_ ?_; rotate_left; (focus (intro v hv; go_simp; rfl)); go_simp)
        (refine h_read 7 rfl (by kernel_rfl) (by kernel_rfl) (h_free rfl) ?_ ?_ ?_; rotate_left; (focus (intro v hv; refine run_cells 52 (.tmp 22) ?_ b' (o' + k * 6) ?_ [.int .i64 x1, .int .i64 x2, .int .i64 x3, .int .i64 x4, .int .i64 x5, .string xs] _ (fun j' u hj => by rw [hv.cell (p := ⟨b', o' + k * 6 + j', none⟩) (World.block_lt_of_cell? wr _ (X2.out j' u hj))]; exact X2.out j' u hj) Try.underlying52 rfl hd_size; (focus rfl); go_simp)); go_simp)
        (refine h_read 8 rfl (by kernel_rfl) (by kernel_rfl) (h_free rfl) (.bool false) ?_ ?_; (focus (intro v hv; first | (go_simp; done) | (go_simp; simp))); go_simp)
        refine h_done (by kernel_rfl) ?_
        go_wp2_with fail
        go_roundw
        case rel => exact ⟨k + 1, vint (by omega), by omega, HN, Lib.hid (B.out.trans (D0.out.mono B.out.size))⟩
        case measure => simp [intOf]; omega
      · have HF := Lib.hid (show V = false by
          cases hh : V with
          | false => rfl
          | true =>
            have := HV.out.1 hh
            rw [this, hx2] at hx1
            exact absurd (Option.some.inj hx1).symm hxy)
        obtain ⟨x1, x2, x3, x4, x5, xs⟩ := x
        obtain ⟨y1, y2, y3, y4, y5, ys⟩ := y
        have X1 := Lib.hid hc1
        have X2 := Lib.hid hc2
        have NE := Lib.hid (show ¬ (x1 = y1 ∧ x2 = y2 ∧ x3 = y3 ∧ x4 = y4 ∧ x5 = y5 ∧ xs.toList = ys.toList) from fun ⟨e1, e2, e3, e4, e5, e6⟩ => hxy (by rw [e1, e2, e3, e4, e5, ba_ext _ _ e6]))
        clear hc1 hc2 hx1 hx2 hxy
        go_wp2_with fail
        refine region_h (fun v => Below wr.heap.size wr v) (by kernel_rfl) (by kernel_rfl) (Below.refl _ _).drew ?_
        obtain ⟨wd, hwd⟩ : ∃ wd, wr.drew = wd := ⟨_, rfl⟩
        have D0 : Hid (Below wr.heap.size wr wd) := Lib.hid (by rw [← hwd]; exact (Below.refl _ _).drew)
        rw [hwd]
        clear hwd
        (refine h_read 0 rfl (by kernel_rfl) (by kernel_rfl) (h_free rfl) ?_ ?_ ?_; rotate_left; (focus (intro v hv; go_simp; rfl)); go_simp)
        (refine h_read 1 rfl (by kernel_rfl) (by kernel_rfl) (h_free rfl) ?_ ?_ ?_; rotate_left; (focus (intro v hv; go_simp; rfl)); go_simp)
        (refine h_read 2 rfl (by kernel_rfl) (by kernel_rfl) (h_free rfl) ?_ ?_ ?_; rotate_left; (focus (intro v hv; go_simp; rfl)); go_simp)
        (refine h_read 3 rfl (by kernel_rfl) (by kernel_rfl) (h_free rfl) ?_ ?_ ?_; rotate_left; (focus (intro v hv; refine run_cells 52 (.tmp 18) ?_ b (o + k * 6) ?_ [.int .i64 x1, .int .i64 x2, .int .i64 x3, .int .i64 x4, .int .i64 x5, .string xs] _ (fun j' u hj => by rw [hv.cell (p := ⟨b, o + k * 6 + j', none⟩) (World.block_lt_of_cell? wr _ (X1.out j' u hj))]; exact X1.out j' u hj) Try.underlying52 rfl hd_size; (focus rfl); go_simp)); go_simp)
        (refine h_read 4 rfl (by kernel_rfl) (by kernel_rfl) (h_free rfl) ?_ ?_ ?_; rotate_left; (focus (intro v hv; go_simp; rfl)); go_simp)
        (refine h_read 5 rfl (by kernel_rfl) (by kernel_rfl) (h_free rfl) ?_ ?_ ?_; rotate_left; (focus (intro v hv; go_simp; rfl)); go_simp)
        (refine h_read 6 rfl (by kernel_rfl) (by kernel_rfl) (h_free rfl) ?_ ?_ ?_; rotate_left; (focus (intro v hv; go_simp; rfl)); go_simp)
        (refine h_read 7 rfl (by kernel_rfl) (by kernel_rfl) (h_free rfl) ?_ ?_ ?_; rotate_left; (focus (intro v hv; refine run_cells 52 (.tmp 22) ?_ b' (o' + k * 6) ?_ [.int .i64 y1, .int .i64 y2, .int .i64 y3, .int .i64 y4, .int .i64 y5, .string ys] _ (fun j' u hj => by rw [hv.cell (p := ⟨b', o' + k * 6 + j', none⟩) (World.block_lt_of_cell? wr _ (X2.out j' u hj))]; exact X2.out j' u hj) Try.underlying52 rfl hd_size; (focus rfl); go_simp)); go_simp)
        (refine h_read 8 rfl (by kernel_rfl) (by kernel_rfl) (h_free rfl) (.bool true) ?_ ?_; (focus (intro v hv; go_simp; first | done | (have ne := NE.out; simp only [not_and] at ne; simpa using ne))); go_simp)
        refine h_done (by kernel_rfl) ?_
        go_wp2_with fail
        go_ret
        exact ⟨one (vbool (by rw [HF.out])), B.out.trans (D0.out.mono B.out.size)⟩
    · obtain rfl : n = k := by omega
      have HT := Lib.hid (show V = true from HV.out.2 (by
        have := P.out
        rwa [List.take_of_length_le (by rw [L1.out]; exact Nat.le_refl _), List.take_of_length_le (by rw [L2.out]; exact Nat.le_refl _)] at this))
      go_wp2_with fail
      go_ret
      exact ⟨one (vbool (by rw [HT.out])), B.out⟩
set_option maxRecDepth 100000 in
set_option maxHeartbeats 16000000 in
theorem psame : LdSameP 50 := by
  intro v x l m w V hv hx hV
  obtain ⟨a, n, c, rfl, h1⟩ := hv
  obtain ⟨a2, n2, c2, rfl, hM⟩ := hx
  obtain ⟨q, u, h', nx, L⟩ := l
  obtain ⟨q2, u2, h2, nx2, M⟩ := m
  dsimp only at h1 hM hV ⊢
  have hF : ∀ {p : Prop}, (¬ p) → ((⟨q, u, h', nx, L⟩ : Ld) = ⟨q2, u2, h2, nx2, M⟩ → p) → V = false := fun hp hi => by
    cases hh : V with
    | false => rfl
    | true => exact absurd (hi (hV.1 hh)) hp
  by_cases k0 : q = q2
  case neg =>
    have HF := Lib.hid (hF k0 (fun e => by injection e))
    have gb : (q == q2) = false := beq_eq_false_iff_ne.2 k0
    clear hF hV h1 hM
    go_enter Try.func50, Try.ntmps50
    go_wp2_with (first
      | ((with_reducible refine box_row (o := ⟨some 2, _, _, _, _, _⟩) rfl _ _ rfl (ldC q u h' nx a n c) rfl ?_); intro w1 hr hb hz; have R1 := Lib.hid hr; have B1 := Lib.hid hb; clear hr hb hz)
      | ((with_reducible refine box_row (o := ⟨some 3, _, _, _, _, _⟩) rfl _ _ rfl (ldC q2 u2 h2 nx2 a2 n2 c2) rfl ?_); intro w2 hr hb hz; have R2 := Lib.hid hr; have R1 := Lib.hid (R1.out.below hb R1.out.lt); have B2 := Lib.hid (B1.out.trans (hb.mono B1.out.size)); obtain ⟨c0, c1, c2, c3, c4⟩ := R1.out.l5; obtain ⟨e0, e1, e2, e3, e4⟩ := R2.out.l5; clear hr hb hz))
    go_ret
    exact ⟨one (vbool (by rw [HF.out])), B2.out⟩
  by_cases k1 : u = u2
  case neg =>
    have HF := Lib.hid (hF k1 (fun e => by injection e))
    have gb : (u == u2) = false := beq_eq_false_iff_ne.2 k1
    have g0 : (q == q2) = true := by simpa using k0
    clear hF hV h1 hM
    go_enter Try.func50, Try.ntmps50
    go_wp2_with (first
      | ((with_reducible refine box_row (o := ⟨some 2, _, _, _, _, _⟩) rfl _ _ rfl (ldC q u h' nx a n c) rfl ?_); intro w1 hr hb hz; have R1 := Lib.hid hr; have B1 := Lib.hid hb; clear hr hb hz)
      | ((with_reducible refine box_row (o := ⟨some 3, _, _, _, _, _⟩) rfl _ _ rfl (ldC q2 u2 h2 nx2 a2 n2 c2) rfl ?_); intro w2 hr hb hz; have R2 := Lib.hid hr; have R1 := Lib.hid (R1.out.below hb R1.out.lt); have B2 := Lib.hid (B1.out.trans (hb.mono B1.out.size)); obtain ⟨c0, c1, c2, c3, c4⟩ := R1.out.l5; obtain ⟨e0, e1, e2, e3, e4⟩ := R2.out.l5; clear hr hb hz))
    go_ret
    exact ⟨one (vbool (by rw [HF.out])), B2.out⟩
  by_cases k2 : h' = h2
  case neg =>
    have HF := Lib.hid (hF k2 (fun e => by injection e))
    have gb : (h' == h2) = false := beq_eq_false_iff_ne.2 k2
    have g0 : (q == q2) = true := by simpa using k0
    have g1 : (u == u2) = true := by simpa using k1
    clear hF hV h1 hM
    go_enter Try.func50, Try.ntmps50
    go_wp2_with (first
      | ((with_reducible refine box_row (o := ⟨some 2, _, _, _, _, _⟩) rfl _ _ rfl (ldC q u h' nx a n c) rfl ?_); intro w1 hr hb hz; have R1 := Lib.hid hr; have B1 := Lib.hid hb; clear hr hb hz)
      | ((with_reducible refine box_row (o := ⟨some 3, _, _, _, _, _⟩) rfl _ _ rfl (ldC q2 u2 h2 nx2 a2 n2 c2) rfl ?_); intro w2 hr hb hz; have R2 := Lib.hid hr; have R1 := Lib.hid (R1.out.below hb R1.out.lt); have B2 := Lib.hid (B1.out.trans (hb.mono B1.out.size)); obtain ⟨c0, c1, c2, c3, c4⟩ := R1.out.l5; obtain ⟨e0, e1, e2, e3, e4⟩ := R2.out.l5; clear hr hb hz))
    go_ret
    exact ⟨one (vbool (by rw [HF.out])), B2.out⟩
  by_cases k3 : nx = nx2
  case neg =>
    have HF := Lib.hid (hF k3 (fun e => by injection e))
    have gb : (nx == nx2) = false := beq_eq_false_iff_ne.2 k3
    have g0 : (q == q2) = true := by simpa using k0
    have g1 : (u == u2) = true := by simpa using k1
    have g2 : (h' == h2) = true := by simpa using k2
    clear hF hV h1 hM
    go_enter Try.func50, Try.ntmps50
    go_wp2_with (first
      | ((with_reducible refine box_row (o := ⟨some 2, _, _, _, _, _⟩) rfl _ _ rfl (ldC q u h' nx a n c) rfl ?_); intro w1 hr hb hz; have R1 := Lib.hid hr; have B1 := Lib.hid hb; clear hr hb hz)
      | ((with_reducible refine box_row (o := ⟨some 3, _, _, _, _, _⟩) rfl _ _ rfl (ldC q2 u2 h2 nx2 a2 n2 c2) rfl ?_); intro w2 hr hb hz; have R2 := Lib.hid hr; have R1 := Lib.hid (R1.out.below hb R1.out.lt); have B2 := Lib.hid (B1.out.trans (hb.mono B1.out.size)); obtain ⟨c0, c1, c2, c3, c4⟩ := R1.out.l5; obtain ⟨e0, e1, e2, e3, e4⟩ := R2.out.l5; clear hr hb hz))
    go_ret
    exact ⟨one (vbool (by rw [HF.out])), B2.out⟩
  have HE := Lib.hid (fun w' (hb : Below w.heap.size w w') => hdequal a a2 n c n2 c2 L M w' V (h1.mono hdOk hb) (hM.mono hdOk hb) (by rw [hV]; constructor <;> intro e; (injection e); (rw [k0, k1, k2, k3, e])))
  have g0 : (q == q2) = true := by simpa using k0
  have g1 : (u == u2) = true := by simpa using k1
  have g2 : (h' == h2) = true := by simpa using k2
  have g3 : (nx == nx2) = true := by simpa using k3
  clear hF hV h1 hM k0 k1 k2 k3
  go_enter Try.func50, Try.ntmps50
  go_wp2_with (first
    | ((with_reducible refine box_row (o := ⟨some 2, _, _, _, _, _⟩) rfl _ _ rfl (ldC q u h' nx a n c) rfl ?_); intro w1 hr hb hz; have R1 := Lib.hid hr; have B1 := Lib.hid hb; clear hr hb hz)
    | ((with_reducible refine box_row (o := ⟨some 3, _, _, _, _, _⟩) rfl _ _ rfl (ldC q2 u2 h2 nx2 a2 n2 c2) rfl ?_); intro w2 hr hb hz; have R2 := Lib.hid hr; have R1 := Lib.hid (R1.out.below hb R1.out.lt); have B2 := Lib.hid (B1.out.trans (hb.mono B1.out.size)); obtain ⟨c0, c1, c2, c3, c4⟩ := R1.out.l5; obtain ⟨e0, e1, e2, e3, e4⟩ := R2.out.l5; clear hr hb hz)
    | (go_at_call 48; (with_reducible refine (HE.out w2 B2.out).mono ?_); rintro x w3 ⟨rfl, hb⟩; have B3 := Lib.hid (B2.out.trans (hb.mono B2.out.size)); have R1 := Lib.hid (R1.out.below hb R1.out.lt); have R2 := Lib.hid (R2.out.below hb R2.out.lt); clear c0 c1 c2 c3 c4 e0 e1 e2 e3 e4 hb))
  go_ret
  exact ⟨one (vbool (by simp)), B3.out⟩
end Go.Proofs.Ytiopcojkdglapaa.W
