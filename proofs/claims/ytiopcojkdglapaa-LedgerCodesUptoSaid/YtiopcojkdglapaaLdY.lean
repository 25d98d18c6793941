/- LAYER 19 (ledger): Spend, Expire of the reference. -/
import Derived.Test.YtiopcojkdglapaaLdX
set_option linter.unusedSimpArgs false
set_option linter.unusedVariables false
namespace Go.Proofs.Ytiopcojkdglapaa.W
open Go Go.ChangeShapes Go.WideShapes Go.ChangeAt Go.RowKit
open Go.Proofs.Ytiopcojkdglapaa.P (enc dec)
open Go.Proofs.Ytiopcojkdglapaa.S

/-- a block of five cells holds no hold -/
theorem Ls.upd5 {w w' : World} {a : Option Addr} {n c g : Nat} {t : TypeId} {L : List Hd} {C : List Value} (h : Ls hdE w a n c L) (hr : Row w g t C) (hC : C.length ≤ 5) (hu : Upd w w' g) : Ls hdE w' a n c L := by
  refine ⟨h.hlen, h.hle, h.hmax, fun x hx => h.hfit x hx, h.hnil, ?_⟩
  rcases h.hcells with h0 | ⟨b, off, rfl, hlt, hc⟩
  · exact .inl h0
  · by_cases h0 : n = 0
    · exact .inl h0
    · have hl : 0 < L.length := by rw [h.hlen]; omega
      have hx : L[0]? = some L[0] := by simp [hl]
      have hbg : b ≠ g := by
        rintro rfl
        have h5 := hc 0 _ hx 5 _ rfl
        rw [hr.cellV] at h5
        have := (List.getElem?_eq_some_iff.1 h5).1
        omega
      exact .inr ⟨b, off, rfl, Nat.lt_of_lt_of_le hlt (by have := hu.size; omega), fun i x hi j v hj => by
        rw [World.cell?_of_block (a := ⟨b, off + i * hdE.k + j, none⟩) (hu.block b hbg)]
        exact hc i x hi j v hj⟩
theorem LsO.below {α : Type} {E : El α} {w w' : World} {base B : Nat} {v : Value} {L : List α} (h : LsO E w base v L) (hlt : ∀ g, v.ownBlock = some g → g < B) (hb : Below B w w') : LsO E w' base v L := by
  obtain ⟨h1, h2⟩ := h
  refine ⟨h1, ?_⟩
  rcases h2 with h2 | ⟨g, cap, cur, rfl, hg, hh, r⟩
  · exact .inl h2
  · exact .inr ⟨g, cap, cur, rfl, hg, by rw [hb.block g (hlt g rfl)]; exact hh, r⟩
set_option maxRecDepth 100000 in
set_option maxHeartbeats 8000000 in
theorem yspend (v : Value) (l : Ld) (id b : Int) (w : World) (h : LdV w v l) (hok : OkL l) :
    Calls Try.prog 99 #[v, .int .i64 id, .int .i64 b] w fun x w' => ∃ v', x = .returned (.tuple #[v', .int .i64 (l.spend id b).2]) ∧ LdV w' v' (l.spend id b).1 ∧ Below w.heap.size w w' := by
  obtain ⟨a, n, c, rfl, h⟩ := h
  have hn8 : n ≤ 8 := by rw [← h.hlen]; exact hok.len
  have hu := hok.u
  have hq := hok.q
  have hh := hok.h
  have hle := hok.le
  have hfb := fun i => found_by (i := i) hok
  obtain ⟨q, u, h', nx, L⟩ := l
  dsimp only at h hok hu hq hh hle ⊢
  have LZS := Lib.hid ld_size
  have LZ := Lib.hid ld_zero
  have H := Lib.hid h
  have HL := Lib.hid h.hlen
  have HF := Lib.hid (h.hfit)
  have HC := Lib.hid (fun w' h => ycopied q u h' nx a n c L w' h (by omega))
  have HREL := Lib.hid (fun w' (h : Ls hdE w' a n c L) => yrelease _ ⟨q, u, h', nx, L⟩ id w' ⟨a, n, c, rfl, h⟩ hok)
  dsimp only at hfb
  clear h hok
  have HSZ := Lib.hid hd_size
  have MZ := Lib.hid hd_zero
  obtain ⟨hd, bv, hfi⟩ : ∃ d v, findH L id = (d, v) := ⟨_, _, rfl⟩
  have HFI := Lib.hid hfi
  have hb2 : bv = true → 0 ≤ hd.by' ∧ hd.by' ≤ h' := fun e => by have := hfb id; rw [hfi] at this; exact this e
  have HREL0 := Lib.hid (show Ld.release ⟨q, u, h', nx, L⟩ id = if bv = false then (⟨q, u, h', nx, L⟩, 6) else (⟨q, u, h' - hd.by', nx, dropH L id⟩, 0) by unfold Ld.release; dsimp only; rw [hfi])
  have HA := Lib.hid (show Ld.spend ⟨q, u, h', nx, L⟩ id b = if bv = false then (⟨q, u, h', nx, L⟩, 6) else if in64 b 0 hd.by' = false then (⟨q, u, h', nx, L⟩, 14) else ({ (Ld.release ⟨q, u, h', nx, L⟩ id).1 with u := u + b }, 0) by unfold Ld.spend; dsimp only; rw [hfi])
  clear hfi hfb
  rcases bv with _ | _
  · rw [HA.out]
    simp only [if_true]
    clear hb2
    go_enter Try.func99, Try.ntmps99
    go_wp2_with (first
      | ((with_reducible refine box_row (o := ⟨some 3, _, _, _, _, _⟩) rfl _ _ rfl (ldC q u h' nx a n c) rfl ?_); intro w1 hr hb hz; have R1 := Lib.hid hr; have B1 := Lib.hid hb; have HZ1 := Lib.hid hz; have B1S := Lib.hid (show w.heap.size < w1.heap.size by omega); clear hr hb hz)
      | ((with_reducible refine alloc_row (o := ⟨some 6, _, _, _, _, _⟩) rfl _ rfl _ LZ.out ?_); intro w2 hr hb hz; have R2 := Lib.hid hr; have R1 := Lib.hid (R1.out.below hb R1.out.lt); have B2 := Lib.hid (B1.out.trans (hb.mono B1.out.size)); have HZ2 := Lib.hid hz; clear hr hb hz)
      | ((with_reducible refine load_row (o := ⟨some 11, _, _, _, _, _⟩) rfl _ _ rfl w.heap.size ?_ _ (ldC q u h' nx a n c) _ R1.out Try.underlying50 rfl ?_ ?_); (focus go_simp); (focus (exact LZS.out)))
      | (go_at_call 47; (with_reducible refine (yfind q u h' nx a n c L id w2 (H.out.mono hdOk B2.out)).mono ?_); rw [HFI.out]; rintro x w3 ⟨rfl, hb⟩; have R13 := Lib.hid (R1.out.below hb R1.out.lt); have R23 := Lib.hid (R2.out.below hb R2.out.lt); have B3 := Lib.hid (B2.out.trans (hb.mono B2.out.size)); clear hb)
      | ((with_reducible refine alloc_row (o := ⟨some 8, _, _, _, _, _⟩) rfl _ rfl _ MZ.out ?_); intro w4 hr hb hz; have RH4 := Lib.hid hr; have R14 := Lib.hid (R13.out.below hb R13.out.lt); have R24 := Lib.hid (R23.out.below hb R23.out.lt); have B4 := Lib.hid (B3.out.trans (hb.mono B3.out.size)); clear hr hb hz)
      | ((with_reducible refine store_row (o := ⟨none, _, _, _, _, _⟩) rfl _ (.tmp 8) _ rfl w3.heap.size hd.cells ?_ ?_ 52 _ RH4.out ?_ ?_ ?_ ?_); (focus go_simp); (focus (first | (go_simp; done) | (go_simp; rfl))); (focus (exact HSZ.out)); (focus rfl); (focus (exact hd_one hd)); intro w5 hr hu; have R15 := Lib.hid (R14.out.upd hu (Nat.ne_of_lt R13.out.lt)); have R25 := Lib.hid (R24.out.upd hu (Nat.ne_of_lt R23.out.lt)); obtain ⟨d0, d1, d2, d3, d4, d5⟩ := hr.h6; have B5 := Lib.hid (B4.out.trans (hu.below B3.out.size)); clear hr hu)
      | ((with_reducible refine load_row (o := ⟨some 18, _, _, _, _, _⟩) rfl _ _ rfl w.heap.size ?_ _ (ldC q u h' nx a n c) _ R15.out Try.underlying50 rfl ?_ ?_); (focus go_simp); (focus (exact LZS.out)))
      | (go_at_call 145; (with_reducible refine (HC.out w5 (H.out.mono hdOk B5.out)).mono ?_); rintro x w6 ⟨a3, c3, rfl, hown, hb⟩; have O6 := Lib.hid hown; have R26 := Lib.hid (R25.out.below hb R25.out.lt); have B6 := Lib.hid (B5.out.trans (hb.mono B5.out.size)); clear hown hb)
      | ((with_reducible refine store_row (o := ⟨none, _, _, _, _, _⟩) rfl _ (.tmp 6) _ rfl w1.heap.size (ldC q u h' nx a3 n c3) ?_ ?_ 50 _ R26.out ?_ ?_ ?_ ?_); (focus go_simp); (focus (first | (go_simp; done) | (go_simp; rfl))); (focus (exact LZS.out)); (focus rfl); (focus (exact ld_one _ _ _ _ _ _ _)); intro w7 hr7 hu7; have R27 := Lib.hid hr7; have O7 := Lib.hid (O6.out.upd_lt hu7 R25.out.lt); have B7 := Lib.hid (B6.out.trans (hu7.below B1.out.size)); clear hr7 hu7))
    exact bodyPost_ret (results_row_tmp rfl _ _ w1.heap.size 50 _ _ _ (by go_simp) R27.out Try.underlying50 rfl LZS.out) rfl ⟨_, rfl, ⟨_, _, _, rfl, (hd_out O7.out HL.out HF.out)⟩, B7.out⟩
  · have HR := Lib.hid (show Ld.release ⟨q, u, h', nx, L⟩ id = (⟨q, u, h' - hd.by', nx, dropH L id⟩, 0) from HREL0.out)
    rw [HA.out, HR.out]
    simp only [Bool.true_eq_false, if_false]
    have hb := hb2 rfl
    clear hb2
    obtain ⟨bv, hbv⟩ : ∃ v, in64 b 0 hd.by' = v := ⟨_, rfl⟩
    have HB := Lib.hid hbv
    rw [hbv]
    rcases bv with _ | _
    · clear hbv
      simp only [if_true]
      go_enter Try.func99, Try.ntmps99
      go_wp2_with (first
        | ((with_reducible refine box_row (o := ⟨some 3, _, _, _, _, _⟩) rfl _ _ rfl (ldC q u h' nx a n c) rfl ?_); intro w1 hr hb hz; have R1 := Lib.hid hr; have B1 := Lib.hid hb; have HZ1 := Lib.hid hz; have B1S := Lib.hid (show w.heap.size < w1.heap.size by omega); clear hr hb hz)
        | ((with_reducible refine alloc_row (o := ⟨some 6, _, _, _, _, _⟩) rfl _ rfl _ LZ.out ?_); intro w2 hr hb hz; have R2 := Lib.hid hr; have R1 := Lib.hid (R1.out.below hb R1.out.lt); have B2 := Lib.hid (B1.out.trans (hb.mono B1.out.size)); have HZ2 := Lib.hid hz; clear hr hb hz)
        | ((with_reducible refine load_row (o := ⟨some 11, _, _, _, _, _⟩) rfl _ _ rfl w.heap.size ?_ _ (ldC q u h' nx a n c) _ R1.out Try.underlying50 rfl ?_ ?_); (focus go_simp); (focus (exact LZS.out)))
        | (go_at_call 47; (with_reducible refine (yfind q u h' nx a n c L id w2 (H.out.mono hdOk B2.out)).mono ?_); rw [HFI.out]; rintro x w3 ⟨rfl, hb⟩; have R13 := Lib.hid (R1.out.below hb R1.out.lt); have R23 := Lib.hid (R2.out.below hb R2.out.lt); have B3 := Lib.hid (B2.out.trans (hb.mono B2.out.size)); clear hb)
        | ((with_reducible refine alloc_row (o := ⟨some 8, _, _, _, _, _⟩) rfl _ rfl _ MZ.out ?_); intro w4 hr hb hz; have RH4 := Lib.hid hr; have R14 := Lib.hid (R13.out.below hb R13.out.lt); have R24 := Lib.hid (R23.out.below hb R23.out.lt); have B4 := Lib.hid (B3.out.trans (hb.mono B3.out.size)); clear hr hb hz)
        | ((with_reducible refine store_row (o := ⟨none, _, _, _, _, _⟩) rfl _ (.tmp 8) _ rfl w3.heap.size hd.cells ?_ ?_ 52 _ RH4.out ?_ ?_ ?_ ?_); (focus go_simp); (focus (first | (go_simp; done) | (go_simp; rfl))); (focus (exact HSZ.out)); (focus rfl); (focus (exact hd_one hd)); intro w5 hr hu; have R15 := Lib.hid (R14.out.upd hu (Nat.ne_of_lt R13.out.lt)); have R25 := Lib.hid (R24.out.upd hu (Nat.ne_of_lt R23.out.lt)); obtain ⟨d0, d1, d2, d3, d4, d5⟩ := hr.h6; have B5 := Lib.hid (B4.out.trans (hu.below B3.out.size)); clear hr hu)
        | (go_at_call 94; with_reducible refine (yin b 0 hd.by' _).mono ?_; rw [HB.out]; rintro x w' ⟨rfl, rfl⟩)
        | ((with_reducible refine load_row (o := ⟨some 25, _, _, _, _, _⟩) rfl _ _ rfl w.heap.size ?_ _ (ldC q u h' nx a n c) _ R15.out Try.underlying50 rfl ?_ ?_); (focus go_simp); (focus (exact LZS.out)))
        | (go_at_call 145; (with_reducible refine (HC.out w5 (H.out.mono hdOk B5.out)).mono ?_); rintro x w6 ⟨a3, c3, rfl, hown, hb⟩; have O6 := Lib.hid hown; have R26 := Lib.hid (R25.out.below hb R25.out.lt); have B6 := Lib.hid (B5.out.trans (hb.mono B5.out.size)); clear hown hb)
        | ((with_reducible refine store_row (o := ⟨none, _, _, _, _, _⟩) rfl _ (.tmp 6) _ rfl w1.heap.size (ldC q u h' nx a3 n c3) ?_ ?_ 50 _ R26.out ?_ ?_ ?_ ?_); (focus go_simp); (focus (first | (go_simp; done) | (go_simp; rfl))); (focus (exact LZS.out)); (focus rfl); (focus (exact ld_one _ _ _ _ _ _ _)); intro w7 hr7 hu7; have R27 := Lib.hid hr7; have O7 := Lib.hid (O6.out.upd_lt hu7 R25.out.lt); have B7 := Lib.hid (B6.out.trans (hu7.below B1.out.size)); clear hr7 hu7))
      exact bodyPost_ret (results_row_tmp rfl _ _ w1.heap.size 50 _ _ _ (by go_simp) R27.out Try.underlying50 rfl LZS.out) rfl ⟨_, rfl, ⟨_, _, _, rfl, (hd_out O7.out HL.out HF.out)⟩, B7.out⟩
    · have hbb := in64_iff.1 hbv
      clear hbv
      simp only [Bool.true_eq_false, if_false]
      go_enter Try.func99, Try.ntmps99
      go_wp2_with (first
        | ((with_reducible refine box_row (o := ⟨some 3, _, _, _, _, _⟩) rfl _ _ rfl (ldC q u h' nx a n c) rfl ?_); intro w1 hr hb hz; have R1 := Lib.hid hr; have B1 := Lib.hid hb; have HZ1 := Lib.hid hz; have B1S := Lib.hid (show w.heap.size < w1.heap.size by omega); clear hr hb hz)
        | ((with_reducible refine alloc_row (o := ⟨some 6, _, _, _, _, _⟩) rfl _ rfl _ LZ.out ?_); intro w2 hr hb hz; have R2 := Lib.hid hr; have R1 := Lib.hid (R1.out.below hb R1.out.lt); have B2 := Lib.hid (B1.out.trans (hb.mono B1.out.size)); have HZ2 := Lib.hid hz; clear hr hb hz)
        | ((with_reducible refine load_row (o := ⟨some 11, _, _, _, _, _⟩) rfl _ _ rfl w.heap.size ?_ _ (ldC q u h' nx a n c) _ R1.out Try.underlying50 rfl ?_ ?_); (focus go_simp); (focus (exact LZS.out)))
        | (go_at_call 47; (with_reducible refine (yfind q u h' nx a n c L id w2 (H.out.mono hdOk B2.out)).mono ?_); rw [HFI.out]; rintro x w3 ⟨rfl, hb⟩; have R13 := Lib.hid (R1.out.below hb R1.out.lt); have R23 := Lib.hid (R2.out.below hb R2.out.lt); have B3 := Lib.hid (B2.out.trans (hb.mono B2.out.size)); clear hb)
        | ((with_reducible refine alloc_row (o := ⟨some 8, _, _, _, _, _⟩) rfl _ rfl _ MZ.out ?_); intro w4 hr hb hz; have RH4 := Lib.hid hr; have R14 := Lib.hid (R13.out.below hb R13.out.lt); have R24 := Lib.hid (R23.out.below hb R23.out.lt); have B4 := Lib.hid (B3.out.trans (hb.mono B3.out.size)); clear hr hb hz)
        | ((with_reducible refine store_row (o := ⟨none, _, _, _, _, _⟩) rfl _ (.tmp 8) _ rfl w3.heap.size hd.cells ?_ ?_ 52 _ RH4.out ?_ ?_ ?_ ?_); (focus go_simp); (focus (first | (go_simp; done) | (go_simp; rfl))); (focus (exact HSZ.out)); (focus rfl); (focus (exact hd_one hd)); intro w5 hr hu; have R15 := Lib.hid (R14.out.upd hu (Nat.ne_of_lt R13.out.lt)); have R25 := Lib.hid (R24.out.upd hu (Nat.ne_of_lt R23.out.lt)); obtain ⟨d0, d1, d2, d3, d4, d5⟩ := hr.h6; have B5 := Lib.hid (B4.out.trans (hu.below B3.out.size)); clear hr hu)
        | (go_at_call 94; with_reducible refine (yin b 0 hd.by' _).mono ?_; rw [HB.out]; rintro x w' ⟨rfl, rfl⟩)
        | ((with_reducible refine load_row (o := ⟨some 28, _, _, _, _, _⟩) rfl _ _ rfl w.heap.size ?_ _ (ldC q u h' nx a n c) _ R15.out Try.underlying50 rfl ?_ ?_); (focus go_simp); (focus (exact LZS.out)))
        | (go_at_call 97; (with_reducible refine (HREL.out w5 (H.out.mono hdOk B5.out)).mono ?_); rw [HR.out]; rintro x w6 ⟨v6, rfl, ⟨a6, n6, c6, rfl, hl⟩, hb⟩; have L6 := Lib.hid hl; have R16 := Lib.hid (R15.out.below hb R15.out.lt); have R26 := Lib.hid (R25.out.below hb R25.out.lt); have B6 := Lib.hid (B5.out.trans (hb.mono B5.out.size)); clear hl hb)
        | ((with_reducible refine store_row (o := ⟨none, _, _, _, _, _⟩) rfl _ (.tmp 3) _ rfl w.heap.size (ldC q u (h' - hd.by') nx a6 n6 c6) ?_ ?_ 50 _ R16.out ?_ ?_ ?_ ?_); (focus go_simp); (focus (first | (go_simp; done) | (go_simp; rfl))); (focus (exact LZS.out)); (focus rfl); (focus (exact ld_one _ _ _ _ _ _ _)); intro w7 hr7 hu7; have R17 := Lib.hid hr7; obtain ⟨c0, c1, c2, c3', c4⟩ := hr7.l5; have R27 := Lib.hid (R26.out.upd hu7 (Nat.ne_of_gt B1S.out)); have L7 := Lib.hid (L6.out.upd5 R16.out (show 5 ≤ 5 from Nat.le_refl 5) hu7); have B7 := Lib.hid (B6.out.trans (hu7.below (Nat.le_refl _))); clear hr7 hu7)
        | ((with_reducible refine store_cell (o := ⟨none, _, _, _, _, _⟩) rfl _ (.tmp 37) _ rfl w.heap.size 1 (.int .i64 (u + b)) ?_ ?_ rfl rfl 50 _ R17.out ?_ ?_ ?_); (focus go_simp); (focus (go_simp; first | done | rfl | exact vint (by omega))); (focus (kernel_rfl)); (focus (show 1 < 5; decide)); intro w8 hr hu; have R18 := Lib.hid (show Row w8 w.heap.size 50 (ldC q (u + b) (h' - hd.by') nx a6 n6 c6) from hr); have R28 := Lib.hid (R27.out.upd hu (Nat.ne_of_gt B1S.out)); have L8 := Lib.hid (L7.out.upd5 R17.out (show 5 ≤ 5 from Nat.le_refl 5) hu); have B8 := Lib.hid (B7.out.trans (hu.below (Nat.le_refl _))); clear hr hu)
        | ((with_reducible refine load_row (o := ⟨some 38, _, _, _, _, _⟩) rfl _ _ rfl w.heap.size ?_ _ (ldC q (u + b) (h' - hd.by') nx a6 n6 c6) _ R18.out Try.underlying50 rfl ?_ ?_); (focus go_simp); (focus (exact LZS.out)))
        | ((with_reducible refine store_row (o := ⟨none, _, _, _, _, _⟩) rfl _ (.tmp 6) _ rfl w1.heap.size (ldC q (u + b) (h' - hd.by') nx a6 n6 c6) ?_ ?_ 50 _ R28.out ?_ ?_ ?_ ?_); (focus go_simp); (focus (first | (go_simp; done) | (go_simp; rfl))); (focus (exact LZS.out)); (focus rfl); (focus (exact ld_one _ _ _ _ _ _ _)); intro w9 hr hu; have R29 := Lib.hid hr; have L9 := Lib.hid (L8.out.upd5 R28.out (show 5 ≤ 5 from Nat.le_refl 5) hu); have B9 := Lib.hid (B8.out.trans (hu.below B1.out.size)); clear hr hu))
      exact bodyPost_ret (results_row_tmp rfl _ _ w1.heap.size 50 _ _ _ (by go_simp) R29.out Try.underlying50 rfl LZS.out) rfl ⟨_, rfl, ⟨_, _, _, rfl, L9.out⟩, B9.out⟩
theorem sumH_bd (L : List Hd) (hm : ∀ s ∈ L, 0 ≤ s.by' ∧ s.by' ≤ 1099511627776) : 0 ≤ sumH L ∧ sumH L ≤ (L.length : Int) * 1099511627776 := by
  induction L with
  | nil => simp [sumH]
  | cons s L ih =>
    have h1 := hm s (by simp)
    have h2 := ih (fun x hx => hm x (by simp [hx]))
    rw [sumH_cons]
    simp only [List.length_cons]
    omega
theorem filter_next (L : List Hd) (k : Nat) (p : Hd → Bool) (s : Hd) (hs : L[k]? = some s) : (L.take (k + 1)).filter p = (L.take k).filter p ++ (if p s then [s] else []) := by
  have hk : k < L.length := (List.getElem?_eq_some_iff.1 hs).1
  rw [List.take_succ_eq_append_getElem hk, List.filter_append]
  rw [List.getElem?_eq_getElem hk] at hs
  rw [Option.some.inj hs]
  simp [List.filter_cons]
set_option maxRecDepth 100000 in
set_option maxHeartbeats 8000000 in
theorem yexpire (v : Value) (l : Ld) (b : Int) (w : World) (h : LdV w v l) (hok : OkL l) :
    Calls Try.prog 105 #[v, .int .i64 b] w fun x w' => ∃ v', x = .returned (.tuple #[v', .int .i64 (l.expire b).2]) ∧ LdV w' v' (l.expire b).1 ∧ Below w.heap.size w w' := by
  obtain ⟨a, n, c, rfl, h⟩ := h
  have hn8 : n ≤ 8 := by rw [← h.hlen]; exact hok.len
  have hu := hok.u
  have hq := hok.q
  have hh := hok.h
  have hle := hok.le
  have hby := fun s hs => (chkH_mem l.L none hok.hs s hs).1.by'
  obtain ⟨q, u, h', nx, L⟩ := l
  dsimp only at h hok hu hq hh hle ⊢
  have LZS := Lib.hid ld_size
  have LZ := Lib.hid ld_zero
  have H := Lib.hid h
  have HL := Lib.hid h.hlen
  have HF := Lib.hid (h.hfit)
  have HC := Lib.hid (fun w' h => ycopied q u h' nx a n c L w' h (by omega))
  dsimp only at hby
  have HBY := Lib.hid hby
  have HSZ := Lib.hid hd_size
  unfold Ld.expire
  dsimp only
  clear h hok hby
  go_enter Try.func105, Try.ntmps105
  go_wp2_with (first
    | ((with_reducible refine box_row (o := ⟨some 2, _, _, _, _, _⟩) rfl _ _ rfl (ldC q u h' nx a n c) rfl ?_); intro w1 hr hb hz; have R1 := Lib.hid hr; have B1 := Lib.hid hb; have HZ1 := Lib.hid hz; have B1S := Lib.hid (show w.heap.size < w1.heap.size by omega); clear hr hb hz)
    | ((with_reducible refine alloc_row (o := ⟨some 4, _, _, _, _, _⟩) rfl _ rfl _ LZ.out ?_); intro w2 hr hb hz; have R2 := Lib.hid hr; have R1 := Lib.hid (R1.out.below hb R1.out.lt); have B2 := Lib.hid (B1.out.trans (hb.mono B1.out.size)); have HZ2 := Lib.hid hz; clear hr hb hz)
    | ((with_reducible refine load_row (o := ⟨some 9, _, _, _, _, _⟩) rfl _ _ rfl w.heap.size ?_ _ (ldC q u h' nx a n c) _ R1.out Try.underlying50 rfl ?_ ?_); (focus go_simp); (focus (exact LZS.out)))
    | (go_at_call 145; (with_reducible refine (HC.out w2 (H.out.mono hdOk B2.out)).mono ?_); rintro x w3 ⟨a3, c3, rfl, hown, hb⟩; have O3s := Lib.hid hown; have R13 := Lib.hid (R1.out.below hb R1.out.lt); have R23 := Lib.hid (R2.out.below hb R2.out.lt); have B3 := Lib.hid (B2.out.trans (hb.mono B2.out.size)); clear hown hb)
    | ((with_reducible refine store_row (o := ⟨none, _, _, _, _, _⟩) rfl _ (.tmp 2) _ rfl w.heap.size (ldC q u h' nx a3 n c3) ?_ ?_ 50 _ R13.out ?_ ?_ ?_ ?_); (focus go_simp); (focus (first | (go_simp; done) | (go_simp; rfl))); (focus (exact LZS.out)); (focus rfl); (focus (exact ld_one _ _ _ _ _ _ _)); intro w4 hr4 hu4; have R14 := Lib.hid hr4; obtain ⟨c0, c1, c2, c3', c4⟩ := hr4.l5; have R24 := Lib.hid (R23.out.upd hu4 (Nat.ne_of_gt B1S.out)); have O4 := Lib.hid (O3s.out.upd_lt hu4 R1.out.lt); have B4 := Lib.hid (B3.out.trans (hu4.below (Nat.le_refl _))); clear hr4 hu4))
  clear c0 c1 c2 c3' c4
  have HLT := Lib.hid (fun g (e : (Value.slice a3 n c3).ownBlock = some g) => (World.ownsRow.lt O4.out g e).2)
  go_loopw [6, 7, 8] (fun vs cn i wr => ∃ (k : Nat), i = .int .i64 (k : Int) ∧ k ≤ n ∧ cn = .int .i64 (((L.take k).filter (fun s => decide (s.un < b))).length : Int) ∧ Hid (LsO hdE wr w4.heap.size vs ((L.take k).filter (fun s => !decide (s.un < b)))) ∧ Hid (Row wr w.heap.size 50 (ldC q u (h' - sumH ((L.take k).filter (fun s => decide (s.un < b)))) nx a3 n c3)) ∧ Hid (Row wr w1.heap.size 50 (ldC 0 0 0 0 none 0 0)) ∧ Hid (LsO hdE wr w2.heap.size (.slice a3 n c3) L) ∧ Hid (Below w.heap.size w wr) ∧ Hid (w4.heap.size ≤ wr.heap.size)) (fun _ _ i _ => n - (intOf i).toNat)
  case atStart => exact ⟨0, rfl, Nat.zero_le _, rfl, Lib.hid (LsO.nil _ _), Lib.hid (by rw [show h' - sumH ((L.take 0).filter (fun s => decide (s.un < b))) = h' by simp [sumH]]; exact R14.out), R24, O4, B4, Lib.hid (Nat.le_refl _)⟩
  case round =>
    obtain ⟨k, rfl, hk, rfl, M, RW, R2w, OL, B, Z⟩ := hrel
    obtain ⟨sk, hsk⟩ : ∃ s, sumH ((L.take k).filter (fun s => decide (s.un < b))) = s := ⟨_, rfl⟩
    obtain ⟨nk, hnk⟩ : ∃ s, ((L.take k).filter (fun s => decide (s.un < b))).length = s := ⟨_, rfl⟩
    obtain ⟨Mk, hMk⟩ : ∃ s, (L.take k).filter (fun s => !decide (s.un < b)) = s := ⟨_, rfl⟩
    have hskb : 0 ≤ sk ∧ sk ≤ 8 * 1099511627776 := by
      have h1 := sumH_bd ((L.take k).filter (fun s => decide (s.un < b))) (fun s hs => HBY.out s ((List.take_sublist k L).subset (List.filter_sublist.subset hs)))
      have h2 : ((L.take k).filter (fun s => decide (s.un < b))).length ≤ 8 := by
        have := List.length_filter_le (fun s : Hd => decide (s.un < b)) (L.take k)
        rw [List.length_take, HL.out] at this; omega
      rw [hsk] at h1
      omega
    have hnkb : nk ≤ 8 := by
      rw [← hnk]
      have := List.length_filter_le (fun s : Hd => decide (s.un < b)) (L.take k)
      rw [List.length_take, HL.out] at this; omega
    have hMkb : Mk.length ≤ 8 := by
      rw [← hMk]
      have := List.length_filter_le (fun s : Hd => !decide (s.un < b)) (L.take k)
      rw [List.length_take, HL.out] at this; omega
    rw [hsk] at RW
    rw [hMk] at M
    rw [hnk]
    have HSK := Lib.hid hsk
    have HNK := Lib.hid hnk
    have HMK := Lib.hid hMk
    have HMB := Lib.hid hMkb
    clear hsk hnk hMk hMkb
    obtain ⟨c0, c1, c2, c3', c4⟩ := RW.out.l5
    have C2 := Lib.hid c2
    have C4 := Lib.hid c4
    clear c0 c1 c2 c3'
    by_cases hlt : k < n
    · have OLs := Lib.hid (hd_out OL.out HL.out HF.out)
      obtain ⟨ba, off, x, e3, hx, hcell, hfx⟩ := OLs.out.at hdOk (Below.refl _ _) k hlt
      subst e3
      obtain ⟨i1, i2, i3, i4, i5, sp⟩ := x
      have e3 := hcell 3 _ rfl
      rw [show off + k * hdE.k + 3 = off + k * 6 + 3 from rfl] at e3
      have E2 := Lib.hid (show wr.cell? ⟨ba, off + k * 6 + 2, none⟩ = some (.int .i64 i3) from hcell 2 _ rfl)
      have XC := Lib.hid hcell
      have FX := Lib.hid hfx
      have hib := HBY.out _ (List.mem_of_getElem? hx)
      have hib : 0 ≤ i3 ∧ i3 ≤ 1099511627776 := hib
      have FN := Lib.hid (filter_next L k (fun s => decide (s.un < b)) _ hx)
      have FM := Lib.hid (filter_next L k (fun s => !decide (s.un < b)) _ hx)
      have g1 : (0 : Int) ≤ (k : Int) := by omega
      have g2 : (k : Int) < (n : Int) := by omega
      clear hx hcell hfx
      by_cases he : i4 < b
      · have HN1 := Lib.hid (show ((L.take (k + 1)).filter (fun s => decide (s.un < b))).length = nk + 1 by rw [FN.out, List.length_append, HNK.out]; simp [he])
        have HN2 := Lib.hid (show (L.take (k + 1)).filter (fun s => !decide (s.un < b)) = Mk by rw [FM.out, HMK.out]; simp [he])
        have HN3 := Lib.hid (show sumH ((L.take (k + 1)).filter (fun s => decide (s.un < b))) = sk + i3 by rw [FN.out, sumH_app, HSK.out]; simp [he, sumH])
        have hwr : IntKind.i64.wrap (h' - sk - i3) = h' - sk - i3 := by rw [IntKind.wrap_i64]; omega
        go_wp2_with fail
        refine region_t (fun v => Below wr.heap.size wr v) 10 (by kernel_rfl) (by kernel_rfl) (by kernel_rfl) (Below.refl _ _).drew ?_
        obtain ⟨wd, hwd⟩ : ∃ wd, wr.drew = wd := ⟨_, rfl⟩
        have D0 : Hid (Below wr.heap.size wr wd) := Lib.hid (by rw [← hwd]; exact (Below.refl _ _).drew)
        rw [hwd]
        clear hwd e3 c4
        have RD := Lib.hid (RW.out.below D0.out RW.out.lt)
        have RD2 := Lib.hid (R2w.out.below D0.out R2w.out.lt)
        have OLD := Lib.hid (OL.out.kept D0.out)
        have MD := Lib.hid (M.out.kept D0.out)
        have BD := Lib.hid (B.out.trans (D0.out.mono B.out.size))
        have ZD := Lib.hid (Nat.le_trans Z.out D0.out.size)
        (refine t_read 0 rfl (by kernel_rfl) (by kernel_rfl) (by kernel_rfl) (t_free rfl) ?_ ?_ ?_; rotate_left; (focus (intro v hv; go_simp; rfl)); go_simp)
        (refine t_read 1 rfl (by kernel_rfl) (by kernel_rfl) (by kernel_rfl) (t_free rfl) ?_ ?_ ?_; rotate_left; (focus (intro v hv; have q0 := (hv.cell (p := ⟨w.heap.size, 2, none⟩) RW.out.lt).trans C2.out; have q1 := (hv.cell (p := ⟨w.heap.size, 4, none⟩) RW.out.lt).trans C4.out; have q2 := (hv.cell (p := ⟨ba, off + k * 6 + 2, none⟩) (World.block_lt_of_cell? wr _ E2.out)).trans E2.out; go_simp; rfl)); go_simp)
        (refine t_read 2 rfl (by kernel_rfl) (by kernel_rfl) (by kernel_rfl) (t_free rfl) ?_ ?_ ?_; rotate_left; (focus (intro v hv; go_simp; rfl)); go_simp)
        (refine t_read 3 rfl (by kernel_rfl) (by kernel_rfl) (by kernel_rfl) (t_free rfl) ?_ ?_ ?_; rotate_left; (focus (intro v hv; have q0 := (hv.cell (p := ⟨w.heap.size, 2, none⟩) RW.out.lt).trans C2.out; have q1 := (hv.cell (p := ⟨w.heap.size, 4, none⟩) RW.out.lt).trans C4.out; have q2 := (hv.cell (p := ⟨ba, off + k * 6 + 2, none⟩) (World.block_lt_of_cell? wr _ E2.out)).trans E2.out; go_simp; rfl)); go_simp)
        (refine t_read 4 rfl (by kernel_rfl) (by kernel_rfl) (by kernel_rfl) (t_free rfl) ?_ ?_ ?_; rotate_left; (focus (intro v hv; go_simp; rfl)); go_simp)
        (refine t_read 5 rfl (by kernel_rfl) (by kernel_rfl) (by kernel_rfl) (t_free rfl) ?_ ?_ ?_; rotate_left; (focus (intro v hv; go_simp; rfl)); go_simp)
        (refine t_read 6 rfl (by kernel_rfl) (by kernel_rfl) (by kernel_rfl) (t_free rfl) ?_ ?_ ?_; rotate_left; (focus (intro v hv; go_simp; rfl)); go_simp)
        (refine t_read 7 rfl (by kernel_rfl) (by kernel_rfl) (by kernel_rfl) (t_free rfl) ?_ ?_ ?_; rotate_left; (focus (intro v hv; have q0 := (hv.cell (p := ⟨w.heap.size, 2, none⟩) RW.out.lt).trans C2.out; have q1 := (hv.cell (p := ⟨w.heap.size, 4, none⟩) RW.out.lt).trans C4.out; have q2 := (hv.cell (p := ⟨ba, off + k * 6 + 2, none⟩) (World.block_lt_of_cell? wr _ E2.out)).trans E2.out; go_simp; rfl)); go_simp)
        (refine t_read 8 rfl (by kernel_rfl) (by kernel_rfl) (by kernel_rfl) (t_free rfl) ?_ ?_ ?_; rotate_left; (focus (intro v hv; go_simp; rfl)); go_simp)
        (refine t_read 9 rfl (by kernel_rfl) (by kernel_rfl) (by kernel_rfl) (t_free rfl) ?_ ?_ ?_; rotate_left; (focus (intro v hv; go_simp; rfl)); go_simp)
        (refine t_last 10 rfl (by kernel_rfl) rfl (by kernel_rfl) (by kernel_rfl) ?_; intro K hK)
        refine store_cell rfl _ _ _ rfl w.heap.size 2 (.int .i64 (h' - sk - i3)) (by go_simp) (by go_simp; first | done | rfl | exact vint (by omega)) rfl rfl 50 _ RD.out (by kernel_rfl) (by show 2 < 5; decide) ?_
        intro w5 hr hu
        have R15 := Lib.hid (show Row w5 w.heap.size 50 (ldC q u (h' - sk - i3) nx (some ⟨ba, off, none⟩) n c3) from hr)
        have R25 := Lib.hid (RD2.out.upd hu (Nat.ne_of_gt B1S.out))
        have OL5 := Lib.hid (OLD.out.upd_lt hu R1.out.lt)
        have M5 := Lib.hid (MD.out.upd_lt hu R14.out.lt)
        have B5 := Lib.hid (BD.out.trans (hu.below (Nat.le_refl _)))
        have Z5 := Lib.hid (show w4.heap.size ≤ w5.heap.size by have := hu.size; have := ZD.out; omega)
        clear hr hu
        refine hK _ _ ?_
        go_simp
        go_wp2_with fail
        go_roundw
        case rel => exact ⟨k + 1, vint (by omega), by omega, by rw [HN1.out]; exact vint (by omega), by (rw [HN2.out]; exact M5), by (rw [HN3.out]; rw [show h' - (sk + i3) = h' - sk - i3 by omega]; exact R15), R25, OL5, B5, Z5⟩
        case measure => simp [intOf]; omega
      · have HN1 := Lib.hid (show ((L.take (k + 1)).filter (fun s => decide (s.un < b))).length = nk by rw [FN.out, List.length_append, HNK.out]; simp [he])
        have HN2 := Lib.hid (show (L.take (k + 1)).filter (fun s => !decide (s.un < b)) = Mk ++ [⟨i1, i2, i3, i4, i5, sp⟩] by rw [FM.out, HMK.out]; simp [he])
        have HN3 := Lib.hid (show sumH ((L.take (k + 1)).filter (fun s => decide (s.un < b))) = sk by rw [FN.out, sumH_app, HSK.out]; simp [he, sumH])
        go_wp2_with (first
          | ((with_reducible refine load_cells (o := ⟨some 43, _, _, _, _, _⟩) rfl _ _ rfl ba (off + k * 6) ?_ [.int .i64 i1, .int .i64 i2, .int .i64 i3, .int .i64 i4, .int .i64 i5, .string sp] _ XC.out Try.underlying52 rfl ?_ ?_); (focus go_simp); (focus (exact HSZ.out)))
          | ((with_reducible refine build_ls hdOk hd_fill (o := ⟨some 44, _, _, _, _, _⟩) rfl _ rfl ⟨i1, i2, i3, i4, i5, sp⟩ ?_ ?_ (by decide) ?_); (focus (first | (go_simp; done) | (go_simp; rfl))); (focus (exact FX.out)); intro wb hl hb hz; have QB := Lib.hid hl; have MB := Lib.hid (M.out.kept hb); have RB := Lib.hid (RW.out.below hb RW.out.lt); have R2B := Lib.hid (R2w.out.below hb R2w.out.lt); have OB := Lib.hid (OL.out.kept hb); have BB := Lib.hid (B.out.trans (hb.mono B.out.size)); have ZB := Lib.hid (Nat.le_trans Z.out hb.size); clear hl hb hz)
          | ((with_reducible refine append_ls hdOk (o := ⟨some 45, _, _, _, _, _⟩) rfl _ _ rfl w4.heap.size _ Mk ?_ MB.out _ 1 1 [⟨i1, i2, i3, i4, i5, sp⟩] ?_ QB.out ?_ ?_ ?_); (focus (first | (go_simp; done) | (go_simp; rfl))); (focus (first | (go_simp; done) | (go_simp; rfl))); (focus (have := HMB.out; omega)); (focus (exact ZB.out)); intro v2 w9 hN hb2 hg2 hv2; have M2 := Lib.hid hN; have R19 := Lib.hid (RB.out.below hb2 R14.out.lt); have R29 := Lib.hid (R2B.out.below hb2 R24.out.lt); have O9 := Lib.hid (OB.out.below HLT.out hb2); have B9 := Lib.hid (BB.out.trans (hb2.mono B4.out.size)); have Z9 := Lib.hid (Nat.le_trans ZB.out hb2.size); clear hN hb2 hg2 hv2))
        go_roundw
        case rel => exact ⟨k + 1, vint (by omega), by omega, by rw [HN1.out], by (rw [HN2.out]; exact M2), by (rw [HN3.out]; exact R19), R29, O9, B9, Z9⟩
        case measure => simp [intOf]; omega
    · obtain rfl : n = k := by omega
      have ht : L.take n = L := List.take_of_length_le (by rw [HL.out]; exact Nat.le_refl _)
      have hs := HSK.out
      have hn := HNK.out
      have hM := HMK.out
      rw [ht] at hs hn hM
      have hMF : ∀ x ∈ Mk, x.fit := fun x hx => HF.out x (by rw [← hM] at hx; exact List.filter_sublist.subset hx)
      obtain ⟨a9, c9, rfl, -, -⟩ := M.out.ls hdOk hMF
      have HMF := Lib.hid hMF
      have HS9 := Lib.hid hs
      have HN9 := Lib.hid hn
      have HM9 := Lib.hid hM
      clear hs hn hM ht hMF
      go_wp2_with (first
        | ((with_reducible refine load_row (o := ⟨some 46, _, _, _, _, _⟩) rfl _ _ rfl w.heap.size ?_ _ (ldC q u (h' - sk) nx a3 n c3) _ RW.out Try.underlying50 rfl ?_ ?_); (focus go_simp); (focus (exact LZS.out)))
        | (go_at_call 147; (with_reducible refine (ywith q u (h' - sk) nx a3 n c3 a9 _ c9 _).mono ?_); rintro x w10 ⟨rfl, hb⟩; have R2A := Lib.hid (R2w.out.below hb R2w.out.lt); have MA := Lib.hid (M.out.kept hb); have BA := Lib.hid (B.out.trans (hb.mono B.out.size)); clear hb)
        | ((with_reducible refine store_row (o := ⟨none, _, _, _, _, _⟩) rfl _ (.tmp 4) _ rfl w1.heap.size (ldC q u (h' - sk) nx a9 Mk.length c9) ?_ ?_ 50 _ R2A.out ?_ ?_ ?_ ?_); (focus go_simp); (focus (first | (go_simp; done) | (go_simp; rfl))); (focus (exact LZS.out)); (focus rfl); (focus (exact ld_one _ _ _ _ _ _ _)); intro w11 hr hu; have R2B := Lib.hid hr; have BB := Lib.hid (BA.out.trans (hu.below B1.out.size)); have LB := Lib.hid (hd_out (MA.out.upd_lt hu R24.out.lt) rfl HMF.out); clear hr hu))
      exact bodyPost_ret (results_row_tmp rfl _ _ w1.heap.size 50 _ _ _ (by go_simp) R2B.out Try.underlying50 rfl LZS.out) rfl ⟨.agg (ldC q u (h' - sk) nx a9 Mk.length c9).toArray, by rw [HN9.out]; rfl, ⟨a9, Mk.length, c9, by dsimp only; rw [HS9.out], by dsimp only; rw [HM9.out]; exact LB.out⟩, BB.out⟩
end Go.Proofs.Ytiopcojkdglapaa.W
