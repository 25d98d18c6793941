/- LAYER 20 (manifest): the reference's Piece, Bytes, at, copied, Find, Names. LAYER 20 (manifest): the reference's Find, Names, Bytes. -/
import Derived.Test.YtpcpgodnhamdiaaMfK
import Derived.Test.YtpcpgodnhamdiaaMfUb
import Derived.Test.YtpcpgodnhamdiaaLg
import Derived.Test.YtpcpgodnhamdiaaRun
set_option linter.unusedSimpArgs false
set_option linter.unusedVariables false
namespace Go.Proofs.Ytpcpgodnhamdiaa.W
open Go Go.ChangeShapes Go.WideShapes Go.ChangeAt Go.RowKit
open Go.Proofs.Ytpcpgodnhamdiaa.P (enc dec)
open Go.Proofs.Ytpcpgodnhamdiaa.S

set_option maxRecDepth 100000 in
set_option maxHeartbeats 16000000 in
theorem uat (sp nm : ByteArray) (a : Option Addr) (n c : Nat) (L : List Sn) (w : World) (h : SnL w a n c L) :
    Calls Try.prog 46 #[.slice a n c, .string sp, .string nm] w fun x w' => x = .returned (.int .i64 (ixM sp nm L)) ∧ Below w.heap.size w w' := by
  obtain ⟨X, hX, e⟩ := h
  have H := Lib.hid hX
  have HE := Lib.hid e
  have HLN := Lib.hid (show L.length = n by rw [← e, List.length_map, hX.hlen])
  have HI := Lib.hid (fun z (hz : IxM (callM sp nm) L z) => hz.uniq (ixM_is sp nm L))
  have hm := hX.hmax
  have hle := hX.hle
  clear hX e
  generalize ixM sp nm L = V at HI ⊢
  go_enter Try.func46, Try.ntmps46
  go_wp2_with fail
  go_loopw [7] (fun i wr => ∃ k : Nat, i = .int .i64 (k : Int) ∧ k ≤ n ∧ Hid (∀ i, i < k → ∀ x, L[i]? = some x → callM sp nm x = false) ∧ w = wr) (fun i _ => n - (intOf i).toNat)
  case atStart => exact ⟨0, rfl, Nat.zero_le _, Lib.hid (fun i h => absurd h (by omega)), rfl⟩
  case round =>
    obtain ⟨k, rfl, hk, HP, rfl⟩ := hrel
    by_cases hlt : k < n
    · obtain ⟨b, off, x, rfl, hx, hcell, -⟩ := H.out.at snOk (Below.refl _ _) k hlt
      have HX := Lib.hid (map_at HE.out hx)
      obtain ⟨⟨xs, xn, xb, xt, xk, P⟩, xa, xm, xc⟩ := x
      obtain ⟨b0, e0⟩ : ∃ b, (xs.toList == sp.toList) = b := ⟨_, rfl⟩
      obtain ⟨b1, e1⟩ : ∃ b, (xn.toList == nm.toList) = b := ⟨_, rfl⟩
      have HC := Lib.hid (show callM sp nm ⟨xs, xn, xb, xt, xk, P⟩ = (b0 && b1) by rw [← e0, ← e1]; rfl)
      have c0 := hcell 0 (.string xs) rfl
      have c1 := hcell 1 (.string xn) rfl
      rw [Nat.add_zero] at c0
      have g1 : (0 : Int) ≤ (k : Int) := by omega
      have g2 : (k : Int) < (n : Int) := by omega
      dsimp only at HX
      clear hx hcell
      have go : (b0 && b1) = false → ∀ i, i < k + 1 → ∀ x, L[i]? = some x → callM sp nm x = false := fun hb i hi x hx => by
        by_cases h : i < k
        · exact HP.out i h x hx
        · obtain rfl : i = k := by omega
          rw [HX.out] at hx; injection hx with hx; subst hx; rw [HC.out, hb]
      have GO := Lib.hid go
      clear go
      cases b0
      · go_wp2_with fail
        go_roundw
        case rel => exact ⟨k + 1, vint (by omega), by omega, Lib.hid (GO.out rfl), trivial⟩
        case measure => simp [intOf]; omega
      · cases b1
        · go_wp2_with fail
          go_roundw
          case rel => exact ⟨k + 1, vint (by omega), by omega, Lib.hid (GO.out rfl), trivial⟩
          case measure => simp [intOf]; omega
        · go_wp2_with fail
          go_ret
          exact ⟨by rw [← HI.out (k : Int) (.inr ⟨k, _, rfl, HX.out, by rw [HC.out]; rfl, HP.out⟩)]; first | done | rfl, Below.refl _ _⟩
    · obtain rfl : n = k := by omega
      go_wp2_with fail
      go_ret
      exact ⟨by rw [← HI.out (-1) (.inl ⟨rfl, fun i x hx => HP.out i (by have := (List.getElem?_eq_some_iff.1 hx).1; rw [HLN.out] at this; exact this) x hx⟩)]; first | done | rfl, Below.refl _ _⟩
set_option maxRecDepth 100000 in
set_option maxHeartbeats 4000000 in
theorem ucopied (sp nm : ByteArray) (bt ti ke : Int) (pa : Option Addr) (pm pc : Nat) (P : List Pc) (w : World) (h : Ls pcE w pa pm pc P) (hm : pm ≤ 1000) :
    Calls Try.prog 48 #[.agg (snC sp nm bt ti ke pa pm pc).toArray] w fun x w' => ∃ a2 c2, x = .returned (.agg (snC sp nm bt ti ke a2 pm c2).toArray) ∧ LsO pcE w' w.heap.size (.slice a2 pm c2) P ∧ Below w.heap.size w w' := by
  have SZ := Lib.hid sn_size
  have LZ := Lib.hid sn_zero
  have H := Lib.hid h
  have HL := Lib.hid h.hlen
  have HM := Lib.hid hm
  clear h hm
  go_enter Try.func48, Try.ntmps48
  go_wp2_with (first
    | ((with_reducible refine box_row (o := ⟨some 1, _, _, _, _, _⟩) rfl _ _ rfl (snC sp nm bt ti ke pa pm pc) rfl ?_); intro w1 hr hb hz; have R1 := Lib.hid hr; have B1 := Lib.hid hb; have B1S := Lib.hid (show w.heap.size < w1.heap.size by omega); clear hr hb hz)
    | ((with_reducible refine alloc_row (o := ⟨some 2, _, _, _, _, _⟩) rfl _ rfl _ LZ.out ?_); intro w2 hr hb hz; have R22 := Lib.hid hr; have R12 := Lib.hid (R1.out.below hb R1.out.lt); obtain ⟨c0, c1, c2, c3, c4, c5⟩ := R12.out.h6s; have B2 := Lib.hid (B1.out.trans (hb.mono B1.out.size)); clear hr hb hz c0 c1 c2 c3 c4)
    | ((with_reducible refine append_ls pcOk (o := ⟨some 5, _, _, _, _, _⟩) rfl _ _ rfl w2.heap.size (.slice none 0 0) [] ?_ (LsO.nil _ _) pa pm pc P ?_ (H.out.mono pcOk B2.out) ?_ (Nat.le_refl _) ?_); (focus (first | (go_simp; done) | (go_simp; rfl))); (focus (first | (go_simp; done) | (go_simp; rfl))); (focus (have := HM.out; simp; omega)); intro v3 w3 hN hb2 hg2 hv2; obtain ⟨a3, c3', rfl, -⟩ := lso_form (n := pm) hN HL.out; have O3 := Lib.hid (show LsO pcE w3 w2.heap.size (.slice a3 pm c3') P from hN); have R13 := Lib.hid (R12.out.below hb2 R12.out.lt); have R23 := Lib.hid (R22.out.below hb2 R22.out.lt); have B3 := Lib.hid (B2.out.trans (hb2.mono B2.out.size)); clear hN hb2 hg2 hv2 c5)
    | ((with_reducible refine store_cell (o := ⟨none, _, _, _, _, _⟩) rfl _ (.tmp 6) _ rfl w.heap.size 5 (.slice a3 pm c3') ?_ ?_ rfl rfl 25 _ R13.out ?_ ?_ ?_); (focus go_simp); (focus (first | (go_simp; done) | (go_simp; rfl))); (focus (kernel_rfl)); (focus (show 5 < 6; decide)); intro w4 hr hu; have R14 := Lib.hid (show Row w4 w.heap.size 25 (snC sp nm bt ti ke a3 pm c3') from hr); have R24 := Lib.hid (R23.out.upd hu (Nat.ne_of_gt B1S.out)); have O4 := Lib.hid (lso_upd_lt O3.out hu R12.out.lt); have B4 := Lib.hid (B3.out.trans (hu.below (Nat.le_refl _))); clear hr hu)
    | ((with_reducible refine load_row (o := ⟨some 7, _, _, _, _, _⟩) rfl _ _ rfl w.heap.size ?_ _ (snC sp nm bt ti ke a3 pm c3') _ R14.out Try.underlying25 rfl ?_ ?_); (focus go_simp); (focus (exact SZ.out)))
    | ((with_reducible refine store_row (o := ⟨none, _, _, _, _, _⟩) rfl _ (.tmp 2) _ rfl w1.heap.size (snC sp nm bt ti ke a3 pm c3') ?_ ?_ 25 _ R24.out ?_ ?_ ?_ ?_); (focus go_simp); (focus (first | (go_simp; done) | (go_simp; rfl))); (focus (exact SZ.out)); (focus rfl); (focus (exact sn_one _ _ _ _ _ _ _ _)); intro w5 hr5 hu5; have R25 := Lib.hid hr5; have O5 := Lib.hid (lso_upd_lt O4.out hu5 R22.out.lt); have B5 := Lib.hid (B4.out.trans (hu5.below B1.out.size)); clear hr5 hu5))
  exact bodyPost_ret (results_cell_row rfl _ _ w1.heap.size 25 _ _ _ (by go_simp) R25.out Try.underlying25 rfl SZ.out) rfl ⟨_, _, rfl, O5.out.base B2.out.size, B5.out⟩
end Go.Proofs.Ytpcpgodnhamdiaa.W

namespace Go.Proofs.Ytpcpgodnhamdiaa.W
open Go Go.ChangeShapes Go.WideShapes Go.ChangeAt Go.RowKit
open Go.Proofs.Ytpcpgodnhamdiaa.P (enc dec)
open Go.Proofs.Ytpcpgodnhamdiaa.S

set_option maxRecDepth 100000 in
set_option maxHeartbeats 16000000 in
theorem umfind (sp nm : ByteArray) (a : Option Addr) (n c : Nat) (L : List Sn) (w : World) (h : SnL w a n c L) (hf : FewP L) :
    Calls Try.prog 20 #[.slice a n c, .string sp, .string nm] w fun x w' => ∃ y : SnX, x = .returned (.tuple #[.agg y.cells.toArray, .bool (hasM sp nm L)]) ∧ y.s = (findM L sp nm).1 ∧ OwnX w' w.heap.size y ∧ Below w.heap.size w w' := by
  have SZ := Lib.hid sn_size
  have MZ := Lib.hid sn_zero
  have HI := Lib.hid (fun (w' : World) (hb : Below w.heap.size w w') => uat sp nm a n c L w' (h.mono hb))
  rcases at_has sp nm L with ⟨h1, -, -⟩ | ⟨y, h1, h2, h3, h4⟩
  · have HF := Lib.hid (show snXZ.s = (findM L sp nm).1 by unfold findM; rw [h1]; rfl)
    rw [show ixM sp nm L = -1 by unfold ixM; rw [h1]; rfl] at HI
    rw [h1]
    clear h hf h1
    go_enter Try.func20, Try.ntmps20
    go_wp2_with (first
      | ((with_reducible refine alloc_row (o := ⟨some 6, _, _, _, _, _⟩) rfl _ rfl _ MZ.out ?_); intro w1 hr hb hz; have R1 := Lib.hid hr; have B1 := Lib.hid hb; clear hr hb hz)
      | (go_at_call 46; (with_reducible refine (HI.out w1 B1.out).mono ?_); rintro x w3 ⟨rfl, hb⟩; have R3 := Lib.hid (R1.out.below hb R1.out.lt); have B3 := Lib.hid (B1.out.trans (hb.mono B1.out.size)); clear hb)
      | ((with_reducible refine build_row (o := ⟨some 15, _, _, _, _, _⟩) rfl _ _ rfl (snXZ.cells) ?_ ?_); (focus (go_simp; kernel_rfl)))
      | ((with_reducible refine store_row (o := ⟨none, _, _, _, _, _⟩) rfl _ (.tmp 6) _ rfl w.heap.size (snXZ.cells) ?_ ?_ 25 _ R3.out ?_ ?_ ?_ ?_); (focus go_simp); (focus (first | (go_simp; done) | (go_simp; rfl))); (focus (exact SZ.out)); (focus rfl); (focus (exact snOk.one snXZ)); intro w4 hr hu; have R4 := Lib.hid hr; have B4 := Lib.hid (B3.out.trans (hu.below (Nat.le_refl _))); clear hr hu))
    exact bodyPost_ret (results_row_tmp rfl _ _ w.heap.size 25 _ _ _ (by go_simp) R4.out Try.underlying25 rfl SZ.out) rfl ⟨snXZ, rfl, HF.out, snXZ_own _ _, B4.out⟩
  · have HF := Lib.hid (show y = (findM L sp nm).1 by unfold findM; rw [if_pos h1]; dsimp only; rw [List.getD_eq_getElem?_getD, h2]; rfl)
    obtain ⟨k, hk⟩ : ∃ k, atM sp nm L = k := ⟨_, rfl⟩
    rw [show ixM sp nm L = (k : Int) by unfold ixM; rw [h1, hk]; rfl] at HI
    rw [hk] at h2
    rw [h1]
    have hm := hf.at h2
    obtain ⟨X, hX, e⟩ := h
    obtain ⟨x, hx, rfl⟩ := map_atr e h2
    have hkn : k < n := by rw [← hX.hlen]; exact (List.getElem?_eq_some_iff.1 hx).1
    have HX := Lib.hid hX
    have HXK := Lib.hid hx
    have HM := Lib.hid hm
    have g1' : (0 : Int) ≤ (k : Int) := by omega
    have g2' : (k : Int) < (n : Int) := by omega
    have g3' : ¬ ((k : Int) < 0) := by omega
    clear hf h1 h2 h3 h4 hk e hX hx hm
    go_enter Try.func20, Try.ntmps20
    go_wp2_with (first
      | ((with_reducible refine alloc_row (o := ⟨some 6, _, _, _, _, _⟩) rfl _ rfl _ MZ.out ?_); intro w1 hr hb hz; have R1 := Lib.hid hr; have B1 := Lib.hid hb; clear hr hb hz)
      | (go_at_call 46; (with_reducible refine (HI.out w1 B1.out).mono ?_); rintro x1 w3 ⟨rfl, hb⟩; have R3 := Lib.hid (R1.out.below hb R1.out.lt); have B3 := Lib.hid (B1.out.trans (hb.mono B1.out.size)); clear hb))
    obtain ⟨b, off, x', rfl, hx', hcell, hfx⟩ := HX.out.at snOk B3.out k hkn
    obtain rfl : x = x' := by rw [HXK.out] at hx'; exact Option.some.inj hx'
    obtain ⟨⟨xs, xn, xb, xt, xk, P⟩, xa, xm, xc⟩ := x
    have XC := Lib.hid hcell
    have FX := Lib.hid hfx
    have hxm : xm ≤ 1000 := by have e1 : P.length = xm := hfx.P.hlen; have e2 : P.length ≤ 1000 := HM.out; omega
    have HOW := Lib.hid (ucopied xs xn xb xt xk xa xm xc P w3 hfx.P hxm)
    clear hcell hfx hx'
    go_wp2_with (first
      | ((with_reducible refine load_cells (o := ⟨some 19, _, _, _, _, _⟩) rfl _ _ rfl b (off + k * 6) ?_ (snC xs xn xb xt xk xa xm xc) _ XC.out Try.underlying25 rfl ?_ ?_); (focus go_simp); (focus (exact SZ.out)))
      | (go_at_call 48; (with_reducible refine HOW.out.mono ?_); rintro x1 w4 ⟨a7, c7, rfl, hown, hb⟩; have O4 := Lib.hid (hown.base B3.out.size); have R4 := Lib.hid (R3.out.below hb R3.out.lt); have B4 := Lib.hid (B3.out.trans (hb.mono B3.out.size)); clear hown hb)
      | ((with_reducible refine store_row (o := ⟨none, _, _, _, _, _⟩) rfl _ (.tmp 6) _ rfl w.heap.size (snC xs xn xb xt xk a7 xm c7) ?_ ?_ 25 _ R4.out ?_ ?_ ?_ ?_); (focus go_simp); (focus (first | (go_simp; done) | (go_simp; rfl))); (focus (exact SZ.out)); (focus rfl); (focus (exact sn_one _ _ _ _ _ _ _ _)); intro w5 hr hu; have R5 := Lib.hid hr; have O5 := Lib.hid (O4.out.upd hu (lso_ne O4.out R4.out (by decide))); have B5 := Lib.hid (B4.out.trans (hu.below (Nat.le_refl _))); clear hr hu))
    exact bodyPost_ret (results_row_tmp rfl _ _ w.heap.size 25 _ _ _ (by go_simp) R5.out Try.underlying25 rfl SZ.out) rfl ⟨⟨⟨xs, xn, xb, xt, xk, P⟩, a7, xm, c7⟩, rfl, HF.out, ⟨FX.out.sp, FX.out.nm, FX.out.by', FX.out.ti, FX.out.ke, FX.out.P.hlen, fun p hp => FX.out.P.hfit p hp, O5.out⟩, B5.out⟩
set_option maxRecDepth 100000 in
set_option maxHeartbeats 16000000 in
theorem umnames (sp : ByteArray) (a : Option Addr) (n c : Nat) (L : List Sn) (w : World) (h : SnL w a n c L) (hn : n ≤ 1000) :
    Calls Try.prog 25 #[.slice a n c, .string sp] w fun x w' => ∃ v, x = .returned v ∧ LsO strE w' w.heap.size v (namesM L sp) ∧ Below w.heap.size w w' := by
  obtain ⟨X, hX, hXL⟩ := h
  have H := Lib.hid hX
  have HLN := Lib.hid (show L.length = n by rw [← hXL, List.length_map, hX.hlen])
  have HXL := Lib.hid hXL
  have hm := hX.hmax
  have hle := hX.hle
  have HN := Lib.hid hn
  clear hX hXL hn
  go_enter Try.func25, Try.ntmps25
  go_wp2_with fail
  go_loopw [5, 6] (fun v i wr => ∃ k : Nat, i = .int .i64 (k : Int) ∧ k ≤ n ∧ Hid (LsO strE wr w.heap.size v (namesM (L.take k) sp)) ∧ Hid (Below w.heap.size w wr)) (fun _ i _ => n - (intOf i).toNat)
  case atStart => exact ⟨0, rfl, Nat.zero_le _, Lib.hid (LsO.nil _ _), Lib.hid (Below.refl _ _)⟩
  case round =>
    obtain ⟨k, rfl, hk, O, B⟩ := hrel
    by_cases hlt : k < n
    · obtain ⟨b, off, x, rfl, hx, hcell, hfx⟩ := H.out.at snOk B.out k hlt
      have hnx := namesM_next L sp k x.s (map_at HXL.out hx)
      have HNL := Lib.hid (show (namesM (L.take k) sp).length + 1 ≤ 1000000 by
        have h1 := namesM_len (L.take k) sp
        have h2 := HN.out
        rw [List.length_take] at h1; omega)
      obtain ⟨⟨xs, xn, xb, xt, xk, P⟩, xa, xm, xc⟩ := x
      have FN := Lib.hid (show xn.size ≤ maxLen from hfx.nm)
      obtain ⟨q, hq⟩ : ∃ q, (xs.toList == sp.toList) = q := ⟨_, rfl⟩
      have HX := Lib.hid (show namesM (L.take (k + 1)) sp = namesM (L.take k) sp ++ (if q = true then [xn] else []) by rw [hnx, ← hq]; rfl)
      have c0 := hcell 0 (.string xs) rfl
      have c1 := hcell 1 (.string xn) rfl
      rw [Nat.add_zero] at c0
      have g1 : (0 : Int) ≤ (k : Int) := by omega
      have g2 : (k : Int) < (n : Int) := by omega
      clear hx hcell hfx hnx
      cases q
      · go_wp2_with fail
        go_roundw
        case rel => exact ⟨k + 1, vint (by omega), by omega, Lib.hid (by rw [HX.out, if_neg (by decide), List.append_nil]; exact O.out), B⟩
        case measure => simp [intOf]; omega
      · go_wp2_with (first
          | ((with_reducible refine build_str (o := ⟨some 26, _, _, _, _, _⟩) rfl _ rfl xn ?_ FN.out ?_); (focus (first | (go_simp; done) | (go_simp; rfl))); intro w7 hl hb; have M7 := Lib.hid hl; have O7 := Lib.hid (O.out.kept hb); have B7 := Lib.hid (B.out.trans (hb.mono B.out.size)); clear hl hb c0 c1)
          | ((with_reducible refine append_ls strOk (o := ⟨some 27, _, _, _, _, _⟩) rfl _ _ rfl w.heap.size _ (namesM (L.take k) sp) ?_ O7.out (some ⟨wr.heap.size, 0, none⟩) 1 1 [xn] ?_ M7.out HNL.out B7.out.size ?_); (focus (first | (go_simp; done) | (go_simp; rfl))); (focus (first | (go_simp; done) | (go_simp; rfl))); intro v8 w8 hN hb2 hg2 hv2; have N8 := Lib.hid hN; have B8 := Lib.hid (B7.out.trans hb2); clear hN hb2 hg2 hv2))
        go_roundw
        case rel => exact ⟨k + 1, vint (by omega), by omega, Lib.hid (by rw [HX.out, if_pos rfl]; exact N8.out), B8⟩
        case measure => simp [intOf]; omega
    · obtain rfl : n = k := by omega
      have ht : L.take n = L := List.take_of_length_le (by rw [HLN.out]; exact Nat.le_refl _)
      rw [ht] at O
      go_wp2_with fail
      go_ret
      exact ⟨_, rfl, O.out, B.out⟩
end Go.Proofs.Ytpcpgodnhamdiaa.W
