/- LAYER 20 (manifest): the reference's Find, Names, Bytes. -/
import Derived.Test.YtgbhggfogbbgbaaMfM
set_option linter.unusedSimpArgs false
set_option linter.unusedVariables false
namespace Go.Proofs.Ytgbhggfogbbgbaa.W
open Go Go.ChangeShapes Go.WideShapes Go.ChangeAt Go.RowKit
open Go.Proofs.Ytgbhggfogbbgbaa.P (enc dec)
open Go.Proofs.Ytgbhggfogbbgbaa.S

set_option maxRecDepth 100000 in
set_option maxHeartbeats 16000000 in
theorem umfind (sp nm : ByteArray) (a : Option Addr) (n c : Nat) (L : List Sn) (w : World) (h : SnL w a n c L) (hf : FewP L) :
    Calls Try.prog 20 #[.slice a n c, .string sp, .string nm] w fun x w' => ∃ y : SnX, x = .returned (.tuple #[.agg y.cells.toArray, .bool (hasM sp nm L)]) ∧ y.s = (findM L sp nm).1 ∧ OwnX w' w.heap.size y ∧ Below w.heap.size w w' := by
  have SZ := Lib.hid sn_size
  have MZ := Lib.hid sn_zero
  have HI := Lib.hid (fun (w' : World) (hb : Below w.heap.size w w') => uat sp nm a n c L w' (h.mono hb))
  rcases at_has sp nm L with ⟨h1, -, -⟩ | ⟨y, h1, h2, h3, h4⟩
  · have HF := Lib.hid (show snXZ.s = (findM L sp nm).1 by unfold findM; rw [h1]; rfl)
    rw [show ixM sp nm L = -1 by unfold ixM; rw [h1]; rfl] at HI
    rw [h1]
    clear h hf h1
    go_enter Try.func20, Try.ntmps20
    go_wp2_with (first
      | ((with_reducible refine alloc_row (o := ⟨some 6, _, _, _, _, _⟩) rfl _ rfl _ MZ.out ?_); intro w1 hr hb hz; have R1 := Lib.hid hr; have B1 := Lib.hid hb; clear hr hb hz)
      | (go_at_call 47; (with_reducible refine (HI.out w1 B1.out).mono ?_); rintro x w3 ⟨rfl, hb⟩; have R3 := Lib.hid (R1.out.below hb R1.out.lt); have B3 := Lib.hid (B1.out.trans (hb.mono B1.out.size)); clear hb)
      | ((with_reducible refine build_row (o := ⟨some 15, _, _, _, _, _⟩) rfl _ _ rfl (snXZ.cells) ?_ ?_); (focus (go_simp; kernel_rfl)))
      | ((with_reducible refine store_row (o := ⟨none, _, _, _, _, _⟩) rfl _ (.tmp 6) _ rfl w.heap.size (snXZ.cells) ?_ ?_ 25 _ R3.out ?_ ?_ ?_ ?_); (focus go_simp); (focus (first | (go_simp; done) | (go_simp; rfl))); (focus (exact SZ.out)); (focus rfl); (focus (exact snOk.one snXZ)); intro w4 hr hu; have R4 := Lib.hid hr; have B4 := Lib.hid (B3.out.trans (hu.below (Nat.le_refl _))); clear hr hu))
    exact bodyPost_ret (results_row_tmp rfl _ _ w.heap.size 25 _ _ _ (by go_simp) R4.out Try.underlying25 rfl SZ.out) rfl ⟨snXZ, rfl, HF.out, snXZ_own _ _, B4.out⟩
  · have HF := Lib.hid (show y = (findM L sp nm).1 by unfold findM; rw [if_pos h1]; dsimp only; rw [List.getD_eq_getElem?_getD, h2]; rfl)
    obtain ⟨k, hk⟩ : ∃ k, atM sp nm L = k := ⟨_, rfl⟩
    rw [show ixM sp nm L = (k : Int) by unfold ixM; rw [h1, hk]; rfl] at HI
    rw [hk] at h2
    rw [h1]
    have hm := hf.at h2
    obtain ⟨X, hX, e⟩ := h
    obtain ⟨x, hx, rfl⟩ := map_atr e h2
    have hkn : k < n := by rw [← hX.hlen]; exact (List.getElem?_eq_some_iff.1 hx).1
    have HX := Lib.hid hX
    have HXK := Lib.hid hx
    have HM := Lib.hid hm
    have g1' : (0 : Int) ≤ (k : Int) := by omega
    have g2' : (k : Int) < (n : Int) := by omega
    have g3' : ¬ ((k : Int) < 0) := by omega
    clear hf h1 h2 h3 h4 hk e hX hx hm
    go_enter Try.func20, Try.ntmps20
    go_wp2_with (first
      | ((with_reducible refine alloc_row (o := ⟨some 6, _, _, _, _, _⟩) rfl _ rfl _ MZ.out ?_); intro w1 hr hb hz; have R1 := Lib.hid hr; have B1 := Lib.hid hb; clear hr hb hz)
      | (go_at_call 47; (with_reducible refine (HI.out w1 B1.out).mono ?_); rintro x1 w3 ⟨rfl, hb⟩; have R3 := Lib.hid (R1.out.below hb R1.out.lt); have B3 := Lib.hid (B1.out.trans (hb.mono B1.out.size)); clear hb))
    obtain ⟨b, off, x', rfl, hx', hcell, hfx⟩ := HX.out.at snOk B3.out k hkn
    obtain rfl : x = x' := by rw [HXK.out] at hx'; exact Option.some.inj hx'
    obtain ⟨⟨xs, xn, xb, xt, xk, P⟩, xa, xm, xc⟩ := x
    have XC := Lib.hid hcell
    have FX := Lib.hid hfx
    have hxm : xm ≤ 1000 := by have e1 : P.length = xm := hfx.P.hlen; have e2 : P.length ≤ 1000 := HM.out; omega
    have HOW := Lib.hid (ucopied xs xn xb xt xk xa xm xc P w3 hfx.P hxm)
    clear hcell hfx hx'
    go_wp2_with (first
      | ((with_reducible refine load_cells (o := ⟨some 19, _, _, _, _, _⟩) rfl _ _ rfl b (off + k * 6) ?_ (snC xs xn xb xt xk xa xm xc) _ XC.out Try.underlying25 rfl ?_ ?_); (focus go_simp); (focus (exact SZ.out)))
      | (go_at_call 49; (with_reducible refine HOW.out.mono ?_); rintro x1 w4 ⟨a7, c7, rfl, hown, hb⟩; have O4 := Lib.hid (hown.base B3.out.size); have R4 := Lib.hid (R3.out.below hb R3.out.lt); have B4 := Lib.hid (B3.out.trans (hb.mono B3.out.size)); clear hown hb)
      | ((with_reducible refine store_row (o := ⟨none, _, _, _, _, _⟩) rfl _ (.tmp 6) _ rfl w.heap.size (snC xs xn xb xt xk a7 xm c7) ?_ ?_ 25 _ R4.out ?_ ?_ ?_ ?_); (focus go_simp); (focus (first | (go_simp; done) | (go_simp; rfl))); (focus (exact SZ.out)); (focus rfl); (focus (exact sn_one _ _ _ _ _ _ _ _)); intro w5 hr hu; have R5 := Lib.hid hr; have O5 := Lib.hid (O4.out.upd hu (lso_ne O4.out R4.out (by decide))); have B5 := Lib.hid (B4.out.trans (hu.below (Nat.le_refl _))); clear hr hu))
    exact bodyPost_ret (results_row_tmp rfl _ _ w.heap.size 25 _ _ _ (by go_simp) R5.out Try.underlying25 rfl SZ.out) rfl ⟨⟨⟨xs, xn, xb, xt, xk, P⟩, a7, xm, c7⟩, rfl, HF.out, ⟨FX.out.sp, FX.out.nm, FX.out.by', FX.out.ti, FX.out.ke, FX.out.P.hlen, fun p hp => FX.out.P.hfit p hp, O5.out⟩, B5.out⟩
set_option maxRecDepth 100000 in
set_option maxHeartbeats 16000000 in
theorem umnames (sp : ByteArray) (a : Option Addr) (n c : Nat) (L : List Sn) (w : World) (h : SnL w a n c L) (hn : n ≤ 1000) :
    Calls Try.prog 25 #[.slice a n c, .string sp] w fun x w' => ∃ v, x = .returned v ∧ LsO strE w' w.heap.size v (namesM L sp) ∧ Below w.heap.size w w' := by
  obtain ⟨X, hX, hXL⟩ := h
  have H := Lib.hid hX
  have HLN := Lib.hid (show L.length = n by rw [← hXL, List.length_map, hX.hlen])
  have HXL := Lib.hid hXL
  have hm := hX.hmax
  have hle := hX.hle
  have HN := Lib.hid hn
  clear hX hXL hn
  go_enter Try.func25, Try.ntmps25
  go_wp2_with fail
  go_loopw [5, 6] (fun v i wr => ∃ k : Nat, i = .int .i64 (k : Int) ∧ k ≤ n ∧ Hid (LsO strE wr w.heap.size v (namesM (L.take k) sp)) ∧ Hid (Below w.heap.size w wr)) (fun _ i _ => n - (intOf i).toNat)
  case atStart => exact ⟨0, rfl, Nat.zero_le _, Lib.hid (LsO.nil _ _), Lib.hid (Below.refl _ _)⟩
  case round =>
    obtain ⟨k, rfl, hk, O, B⟩ := hrel
    by_cases hlt : k < n
    · obtain ⟨b, off, x, rfl, hx, hcell, hfx⟩ := H.out.at snOk B.out k hlt
      have hnx := namesM_next L sp k x.s (map_at HXL.out hx)
      have HNL := Lib.hid (show (namesM (L.take k) sp).length + 1 ≤ 1000000 by
        have h1 := namesM_len (L.take k) sp
        have h2 := HN.out
        rw [List.length_take] at h1; omega)
      obtain ⟨⟨xs, xn, xb, xt, xk, P⟩, xa, xm, xc⟩ := x
      have FN := Lib.hid (show xn.size ≤ maxLen from hfx.nm)
      obtain ⟨q, hq⟩ : ∃ q, (xs.toList == sp.toList) = q := ⟨_, rfl⟩
      have HX := Lib.hid (show namesM (L.take (k + 1)) sp = namesM (L.take k) sp ++ (if q = true then [xn] else []) by rw [hnx, ← hq]; rfl)
      have c0 := hcell 0 (.string xs) rfl
      have c1 := hcell 1 (.string xn) rfl
      rw [Nat.add_zero] at c0
      have g1 : (0 : Int) ≤ (k : Int) := by omega
      have g2 : (k : Int) < (n : Int) := by omega
      clear hx hcell hfx hnx
      cases q
      · go_wp2_with fail
        go_roundw
        case rel => exact ⟨k + 1, vint (by omega), by omega, Lib.hid (by rw [HX.out, if_neg (by decide), List.append_nil]; exact O.out), B⟩
        case measure => simp [intOf]; omega
      · go_wp2_with (first
          | ((with_reducible refine build_str (o := ⟨some 26, _, _, _, _, _⟩) rfl _ rfl xn ?_ FN.out ?_); (focus (first | (go_simp; done) | (go_simp; rfl))); intro w7 hl hb; have M7 := Lib.hid hl; have O7 := Lib.hid (O.out.kept hb); have B7 := Lib.hid (B.out.trans (hb.mono B.out.size)); clear hl hb c0 c1)
          | ((with_reducible refine append_ls strOk (o := ⟨some 27, _, _, _, _, _⟩) rfl _ _ rfl w.heap.size _ (namesM (L.take k) sp) ?_ O7.out (some ⟨wr.heap.size, 0, none⟩) 1 1 [xn] ?_ M7.out HNL.out B7.out.size ?_); (focus (first | (go_simp; done) | (go_simp; rfl))); (focus (first | (go_simp; done) | (go_simp; rfl))); intro v8 w8 hN hb2 hg2 hv2; have N8 := Lib.hid hN; have B8 := Lib.hid (B7.out.trans hb2); clear hN hb2 hg2 hv2))
        go_roundw
        case rel => exact ⟨k + 1, vint (by omega), by omega, Lib.hid (by rw [HX.out, if_pos rfl]; exact N8.out), B8⟩
        case measure => simp [intOf]; omega
    · obtain rfl : n = k := by omega
      have ht : L.take n = L := List.take_of_length_le (by rw [HLN.out]; exact Nat.le_refl _)
      rw [ht] at O
      go_wp2_with fail
      go_ret
      exact ⟨_, rfl, O.out, B.out⟩
set_option maxRecDepth 100000 in
set_option maxHeartbeats 16000000 in
theorem ubytes (a : Option Addr) (n c : Nat) (P : List Pc) (w : World) (h : Ls pcE w a n c P) :
    Calls Try.prog 18 #[.slice a n c] w fun x w' => x = .returned (.tuple #[.int .i64 (bytesM P).1, .int .i64 (bytesM P).2]) ∧ Below w.heap.size w w' := by
  have H := Lib.hid h
  have HL := Lib.hid h.hlen
  have hm := h.hmax
  have hle := h.hle
  have SZ := Lib.hid pc_size
  obtain ⟨v, hv⟩ : ∃ v, bytesM P = v := ⟨_, rfl⟩
  have HV := Lib.hid (show (if n ≤ 8 ∧ P.all pokM = true then (sumM P, (0 : Int)) else (0, 1)) = v by rw [← hv, ← h.hlen]; rfl)
  rw [hv]
  clear h hv
  go_enter Try.func18, Try.ntmps18
  go_wp2_with fail
  go_loopw [4, 5] (fun s i wr => ∃ k : Nat, i = .int .i64 (k : Int) ∧ k ≤ n ∧ k ≤ 8 ∧ s = .int .i64 (sumM (P.take k)) ∧ Hid ((P.take k).all pokM = true) ∧ Hid (Below w.heap.size w wr)) (fun _ i _ => n - (intOf i).toNat)
  case atStart => exact ⟨0, rfl, Nat.zero_le _, Nat.zero_le _, rfl, Lib.hid rfl, Lib.hid (Below.refl _ _)⟩
  case round =>
    obtain ⟨k, rfl, hk, hk8, rfl, A, B⟩ := hrel
    have hsm := sumM_lim _ A.out
    have htl : (P.take k).length ≤ 8 := by rw [List.length_take, HL.out]; omega
    obtain ⟨sm0, hs⟩ : ∃ s, sumM (P.take k) = s := ⟨_, rfl⟩
    rw [hs] at hsm ⊢
    have hsb : 0 ≤ sm0 ∧ sm0 ≤ 2048 := ⟨hsm.1, by have := hsm.2; have : ((P.take k).length : Int) ≤ 8 := (by omega); omega⟩
    have HSM := Lib.hid hs
    clear hs hsm htl
    by_cases hlt : k < n
    · by_cases h8 : 8 ≤ k
      · have HF := Lib.hid (show v = (0, 1) by rw [← HV.out, if_neg]; rintro ⟨e, -⟩; omega)
        have g1 : (8 : Int) ≤ (k : Int) := by omega
        have g2 : (k : Int) < (n : Int) := by omega
        clear HV
        go_wp2_with fail
        go_ret2
        exact ⟨by rw [HF.out]; first | done | rfl, B.out⟩
      · obtain ⟨b, off, x, rfl, hx, hcell, hfx⟩ := H.out.at pcOk B.out k hlt
        have HONE := Lib.hid (fun w => upiece x w hfx)
        have hnx := allM_next P k x hx
        rw [A.out, Bool.true_and] at hnx
        have hsz : pokM x = true → 1 ≤ x.size ∧ x.size ≤ 256 := fun e => by unfold pokM at e; simp only [Bool.and_eq_true, in64_iff] at e; exact e.2
        have HS := Lib.hid (show sumM (P.take (k + 1)) = sm0 + x.size by rw [sumM_next P k x hx, HSM.out])
        have hbad : (P.take (k + 1)).all pokM = false → v = (0, 1) := fun h => by
          rw [← HV.out, if_neg]
          rintro ⟨-, e⟩
          rw [allM_take P (k + 1) e] at h; cases h
        obtain ⟨ok, hok⟩ : ∃ b, pokM x = b := ⟨_, rfl⟩
        rw [hok] at hnx hsz
        have HOK := Lib.hid hok
        obtain ⟨sm, sz⟩ := x
        dsimp only at hsz HS
        have XC := Lib.hid hcell
        have c1 := hcell 1 (.int .i64 sz) rfl
        have C1 := Lib.hid c1
        have g1 : (0 : Int) ≤ (k : Int) := by omega
        have g2 : (k : Int) < (n : Int) := by omega
        have g3 : ¬ (8 : Int) ≤ (k : Int) := by omega
        clear hx hcell hfx hok c1
        rcases ok with _ | _
        · have HF := Lib.hid (hbad hnx)
          clear hnx hbad hsz
          go_wp2_with (first
            | ((with_reducible refine lg_val (o := ⟨some 18, _, _, _, _, _⟩) 2 false 14 rfl ?_ ?_ (.agg ([.string sm, .int .i64 sz] : List Value).toArray) ?_ ?_); (focus rfl); (focus (first | (go_simp; done) | (go_simp; rfl))); (focus (refine run_cells 37 (.tmp 17) rfl b (off + k * 2) ?_ [.string sm, .int .i64 sz] _ XC.out Try.underlying37 rfl SZ.out; go_simp)))
            | (go_at_call 22; (with_reducible refine (HONE.out wr).mono ?_); rw [HOK.out]; rintro x w7 ⟨rfl, hb⟩; have B7 := Lib.hid (B.out.trans (hb.mono B.out.size)); clear hb))
          go_ret2
          exact ⟨by rw [HF.out]; first | done | rfl, B7.out⟩
        · have HN := Lib.hid hnx
          have hib := hsz rfl
          clear hnx hbad hsz
          go_wp2_with (first
            | ((with_reducible refine lg_val (o := ⟨some 18, _, _, _, _, _⟩) 2 false 14 rfl ?_ ?_ (.agg ([.string sm, .int .i64 sz] : List Value).toArray) ?_ ?_); (focus rfl); (focus (first | (go_simp; done) | (go_simp; rfl))); (focus (refine run_cells 37 (.tmp 17) rfl b (off + k * 2) ?_ [.string sm, .int .i64 sz] _ XC.out Try.underlying37 rfl SZ.out; go_simp)))
            | (go_at_call 22; (with_reducible refine (HONE.out wr).mono ?_); rw [HOK.out]; rintro x w7 ⟨rfl, hb⟩; have d1 := (hb.cell (p := ⟨b, off + k * 2 + 1, none⟩) (World.block_lt_of_cell? wr _ C1.out)).trans C1.out; have B7 := Lib.hid (B.out.trans (hb.mono B.out.size)); clear hb))
          go_roundw
          case rel => exact ⟨k + 1, vint (by omega), by omega, by omega, by rw [HS.out], HN, B7⟩
          case measure => simp [intOf]; omega
    · obtain rfl : n = k := by omega
      have ht : P.take n = P := List.take_of_length_le (by rw [HL.out]; exact Nat.le_refl _)
      have HX := Lib.hid (show v = (sm0, 0) by rw [← HV.out, ← HSM.out]; rw [ht] at A ⊢; rw [if_pos ⟨hk8, A.out⟩])
      clear ht
      go_wp2_with fail
      go_ret2
      exact ⟨by rw [HX.out]; first | done | rfl, B.out⟩
end Go.Proofs.Ytgbhggfogbbgbaa.W
