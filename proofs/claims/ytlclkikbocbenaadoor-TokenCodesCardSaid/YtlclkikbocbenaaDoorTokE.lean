/- CONTRACTS of layer 8 (token): the reference's head and Check. CONTRACTS of layer 8 (token): the reference's Mint. -/
import Derived.Test.YtlclkikbocbenaaDoorTokC
set_option linter.unusedSimpArgs false
set_option linter.unusedVariables false
namespace Go.Proofs.YtlclkikbocbenaaDoor.W
open Go.ChangeShapes Go.WideShapes Go.ChangeAt Go.RowKit
open Go.Proofs.YtlclkikbocbenaaDoor.P (enc)

set_option maxRecDepth 100000 in
set_option maxHeartbeats 1000000 in
theorem head_any (lane id epoch : Int) (w : World) :
    Calls Tryd.prog 36 #[.int .i64 lane, .int .i64 id, .int .i64 epoch] w fun e w' => e = .returned (.bool (headV lane id epoch)) ∧ w = w' := by
  obtain ⟨R, hR⟩ : ∃ R, headV lane id epoch = R := ⟨_, rfl⟩
  rw [hR]
  unfold headV at hR
  have HR := Lib.hid hR
  clear hR
  go_enter Tryd.func36, Tryd.ntmps36
  go_wp2
  all_goals
    go_ret
    refine ⟨?_, rfl⟩
    rw [← HR.out]
    refine congrArg Ending.returned ?_
    show Value.bool _ = Value.bool _
    refine congrArg Value.bool ?_
    rw [Bool.eq_iff_iff]
    simp only [Bool.and_eq_true, decide_eq_true_eq]
    first | omega | (simp; omega)

set_option maxRecDepth 100000 in
set_option maxHeartbeats 1000000 in
theorem utcheck_any (lane id epoch : Int) (a : Option Addr) (len cap : Nat) (L : List Cv) (tag : ByteArray) (w : World) (h : Cvs w a len cap L) :
    Calls Tryd.prog 41 #[.agg #[.int .i64 lane, .int .i64 id, .int .i64 epoch, .slice a len cap, .string tag]] w fun e w' => e = .returned (.int .i64 (tokErr lane id epoch L tag)) ∧ Below w.heap.size w w' := by
  have H := Lib.hid h
  have HL := Lib.hid h.hlen
  have hlen := h.hlen
  obtain ⟨R, hR⟩ : ∃ R, tokErr lane id epoch L tag = R := ⟨_, rfl⟩
  rw [hR]
  unfold tokErr tokOk at hR
  rw [hlen] at hR
  clear h hlen
  rcases hh : headV lane id epoch with _ | _
  · have HH := Lib.hid hh
    rw [hh] at hR
    have HRR := Lib.hid (show R = 1 by rw [← hR]; rfl)
    clear hh hR
    go_enter Tryd.func41, Tryd.ntmps41
    go_wp2_with (first
        | ((with_reducible refine box_row (o := ⟨some 1, _, _, _, _, _⟩) rfl _ _ rfl [.int .i64 lane, .int .i64 id, .int .i64 epoch, .slice a len cap, .string tag] rfl ?_); intro w1 hr1 hb1 hz1; have HR1 := Lib.hid hr1; have HW1 := Lib.hid hb1; clear hr1 hb1 hz1; have g0 := HR1.out.cellV 0; have g1 := HR1.out.cellV 1; have g2 := HR1.out.cellV 2; have g3 := HR1.out.cellV 3; have g4 := HR1.out.cellV 4; simp only [List.getElem?_cons_zero, List.getElem?_cons_succ] at g0 g1 g2 g3 g4)
        | (go_at_call 36; refine (head_any lane id epoch w1).mono ?_; rw [HH.out]; rintro e w' ⟨rfl, rfl⟩))
    go_ret
    exact ⟨by rw [HRR.out]; rfl, HW1.out⟩
  have HH := Lib.hid hh
  rw [hh] at hR
  clear hh
  by_cases h8 : 8 < len
  · have HRR := Lib.hid (show R = 1 by rw [← hR, decide_eq_false (show ¬ len ≤ 8 by omega), Bool.false_and, Bool.and_false]; rfl)
    clear hR
    go_enter Tryd.func41, Tryd.ntmps41
    go_wp2_with (first
        | ((with_reducible refine box_row (o := ⟨some 1, _, _, _, _, _⟩) rfl _ _ rfl [.int .i64 lane, .int .i64 id, .int .i64 epoch, .slice a len cap, .string tag] rfl ?_); intro w1 hr1 hb1 hz1; have HR1 := Lib.hid hr1; have HW1 := Lib.hid hb1; clear hr1 hb1 hz1; have g0 := HR1.out.cellV 0; have g1 := HR1.out.cellV 1; have g2 := HR1.out.cellV 2; have g3 := HR1.out.cellV 3; have g4 := HR1.out.cellV 4; simp only [List.getElem?_cons_zero, List.getElem?_cons_succ] at g0 g1 g2 g3 g4)
        | (go_at_call 36; refine (head_any lane id epoch w1).mono ?_; rw [HH.out]; rintro e w' ⟨rfl, rfl⟩))
    go_ret
    exact ⟨by rw [HRR.out]; rfl, HW1.out⟩
  have h8' : len ≤ 8 := by omega
  by_cases ht : tag.size = 32
  · rw [decide_eq_true ht] at hR
    have HR := Lib.hid hR
    clear hR
    go_enter Tryd.func41, Tryd.ntmps41
    go_wp2_with (first
        | ((with_reducible refine box_row (o := ⟨some 1, _, _, _, _, _⟩) rfl _ _ rfl [.int .i64 lane, .int .i64 id, .int .i64 epoch, .slice a len cap, .string tag] rfl ?_); intro w1 hr1 hb1 hz1; have HR1 := Lib.hid hr1; have HW1 := Lib.hid hb1; clear hr1 hb1 hz1; have g0 := HR1.out.cellV 0; have g1 := HR1.out.cellV 1; have g2 := HR1.out.cellV 2; have g3 := HR1.out.cellV 3; have g4 := HR1.out.cellV 4; simp only [List.getElem?_cons_zero, List.getElem?_cons_succ] at g0 g1 g2 g3 g4)
        | (go_at_call 36; refine (head_any lane id epoch w1).mono ?_; rw [HH.out]; rintro e w' ⟨rfl, rfl⟩))
    go_loopw [3] (fun i wr => ∃ (k : Nat), i = .int .i64 (k : Int) ∧ k ≤ len ∧ Hid ((L.take k).all Cv.ok = true) ∧ Hid (Row wr w.heap.size 25 [.int .i64 lane, .int .i64 id, .int .i64 epoch, .slice a len cap, .string tag]) ∧ Hid (Below w.heap.size w wr)) (fun i _ => len - (intOf i).toNat)
    case atStart => exact ⟨0, rfl, Nat.zero_le _, Lib.hid rfl, HR1, HW1⟩
    case round =>
      obtain ⟨k, rfl, hk, HA, HRW, HB⟩ := hrel
      have q3 := HRW.out.cellV 3
      simp only [List.getElem?_cons_zero, List.getElem?_cons_succ] at q3
      by_cases hlt : k < len
      · obtain ⟨b, off, rfl, hblt, hcell⟩ := H.out.at (by omega)
        obtain ⟨x0, x1, x2⟩ := hcell k hlt
        have hfit := H.out.fitAt hlt
        have hst : (L.take (k + 1)).all Cv.ok = ((L.take k).all Cv.ok && (L.getD k default).ok) := by
          have hk2 : k < L.length := by rw [HL.out]; exact hlt
          rw [List.take_succ_eq_append_getElem hk2, List.all_append]
          simp [hk2]
        have hbad : (L.getD k default).ok = false → L.all Cv.ok = false := by
          intro h0
          have hk2 : k < L.length := by rw [HL.out]; exact hlt
          rw [List.all_eq_false]
          refine ⟨L[k], List.getElem_mem hk2, ?_⟩
          have e : L.getD k default = L[k] := by simp [hk2]
          rw [← e, h0]; decide
        rcases hce : L.getD k default with ⟨kind, num, name⟩
        rw [hce] at x0 x1 x2 hfit hst hbad
        simp only at x0 x1 x2
        rw [← HB.out.cell (p := ⟨b, off + k * 3, none⟩) hblt] at x0
        rw [← HB.out.cell (p := ⟨b, off + k * 3 + 1, none⟩) hblt] at x1
        rw [← HB.out.cell (p := ⟨b, off + k * 3 + 2, none⟩) hblt] at x2
        have HFI := Lib.hid hfit
        rcases hok : Cv.ok ⟨kind, num, name⟩ with _ | _
        · have HE := Lib.hid (show Cv.err ⟨kind, num, name⟩ = 1 by unfold Cv.err; rw [hok]; rfl)
          have HRF := Lib.hid (show R = 1 by rw [← HR.out, hbad hok, Bool.and_false, Bool.and_false]; rfl)
          clear hcell hfit hst hbad hce hok
          go_wp2_with (go_at_call 32; refine (ucheck ⟨kind, num, name⟩ _ HFI.out).mono ?_; rw [HE.out]; rintro e w4 ⟨rfl, hb4⟩; have HRW4 := Lib.hid (HRW.out.below hb4 HRW.out.lt); have HB4 := Lib.hid (HB.out.trans (hb4.mono HB.out.size)); clear hb4)
          go_ret
          exact ⟨by rw [HRF.out]; rfl, HB4.out⟩
        · have HE := Lib.hid (show Cv.err ⟨kind, num, name⟩ = 0 by unfold Cv.err; rw [hok]; rfl)
          rw [hok, HA.out] at hst
          have HA2 := Lib.hid (show (L.take (k + 1)).all Cv.ok = true from hst)
          clear hcell hfit hst hbad hce hok
          go_wp2_with (go_at_call 32; refine (ucheck ⟨kind, num, name⟩ _ HFI.out).mono ?_; rw [HE.out]; rintro e w4 ⟨rfl, hb4⟩; have HRW4 := Lib.hid (HRW.out.below hb4 HRW.out.lt); have HB4 := Lib.hid (HB.out.trans (hb4.mono HB.out.size)); clear hb4)
          go_roundw
          case rel => exact ⟨k + 1, vint (by omega), by omega, HA2, HRW4, HB4⟩
          case measure => simp [intOf]; omega
      · obtain rfl : len = k := by omega
        have ha := HA.out
        rw [List.take_of_length_le (by rw [HL.out]; exact Nat.le_refl _)] at ha
        have HRT := Lib.hid (show R = 0 by rw [← HR.out, ha, decide_eq_true h8']; rfl)
        clear ha
        go_wp2_with fail
        go_ret
        exact ⟨by rw [HRT.out]; rfl, HB.out⟩

  · have HRR := Lib.hid (show R = 1 by rw [← hR, decide_eq_false ht]; rfl)
    have ht2 : ((tag.size : Int) != 32) = true := by simp; omega
    clear hR
    go_enter Tryd.func41, Tryd.ntmps41
    go_wp2_with (first
        | ((with_reducible refine box_row (o := ⟨some 1, _, _, _, _, _⟩) rfl _ _ rfl [.int .i64 lane, .int .i64 id, .int .i64 epoch, .slice a len cap, .string tag] rfl ?_); intro w1 hr1 hb1 hz1; have HR1 := Lib.hid hr1; have HW1 := Lib.hid hb1; clear hr1 hb1 hz1; have g0 := HR1.out.cellV 0; have g1 := HR1.out.cellV 1; have g2 := HR1.out.cellV 2; have g3 := HR1.out.cellV 3; have g4 := HR1.out.cellV 4; simp only [List.getElem?_cons_zero, List.getElem?_cons_succ] at g0 g1 g2 g3 g4)
        | (go_at_call 36; refine (head_any lane id epoch w1).mono ?_; rw [HH.out]; rintro e w' ⟨rfl, rfl⟩))
    go_ret
    exact ⟨by rw [HRR.out]; rfl, HW1.out⟩

end Go.Proofs.YtlclkikbocbenaaDoor.W

namespace Go.Proofs.YtlclkikbocbenaaDoor.W
open Go.ChangeShapes Go.WideShapes Go.ChangeAt Go.RowKit
open Go.Proofs.YtlclkikbocbenaaDoor.P (enc)

set_option maxRecDepth 100000 in
set_option maxHeartbeats 1000000 in
theorem utmint_any (s : ByteArray) (lane id epoch : Int) (w : World) (hs : s.size ≤ 50000000000000) (hf : ∀ z ∈ [lane, id, epoch], z ≤ 9223372036854775807) :
    Calls Tryd.prog 10 #[.string s, .int .i64 lane, .int .i64 id, .int .i64 epoch] w fun e w' => e = .returned (mintV s.data.toList lane id epoch) ∧ Below w.heap.size w w' := by
  have HF := Lib.hid hf
  have TZ := Lib.hid tok_zero
  have TS := Lib.hid tok_size
  obtain ⟨S, hS⟩ : ∃ S, str (firstL s.data.toList lane id epoch) = S := ⟨_, rfl⟩
  have hsz : S.size = 32 := by rw [← hS, str_size]; exact tagL_len _ _
  obtain ⟨V, hV⟩ : ∃ V, mintV s.data.toList lane id epoch = V := ⟨_, rfl⟩
  rw [hV]
  unfold mintV at hV
  rw [hS] at hV
  have hel := encz_len [lane, id, epoch] hf
  obtain ⟨E, hE⟩ : ∃ E, textT lane id epoch = E := ⟨_, rfl⟩
  have hEl : E.length ≤ 40 := by rw [← hE, textT, List.length_append]; simp only [tokW, List.length_cons, List.length_nil] at hel ⊢; omega
  have HSE := Lib.hid (show str (tagL s.data.toList E) = S by rw [← hS, firstL, hE])
  have HE := Lib.hid hE
  have HEL := Lib.hid hEl
  clear hf hS hsz hel hE hEl
  rcases hh : headV lane id epoch with _ | _
  · have HH := Lib.hid hh
    rw [hh] at hV
    have HV := Lib.hid (show V = .tuple #[.agg (tokC 0 0 0 (.slice none 0 0) ⟨#[]⟩).toArray, .int .i64 1] from hV.symm)
    clear hV hh
    go_enter Tryd.func10, Tryd.ntmps10
    go_wp2_with ((with_reducible refine alloc_row (o := ⟨some 8, _, _, _, _, _⟩) rfl _ rfl _ TZ.out ?_); intro w1 hr1 hb1 hz1; have HR1 := Lib.hid hr1; have HB1 := Lib.hid hb1; clear hr1 hb1 hz1)
    refine (head_any lane id epoch w1).mono ?_
    rw [HH.out]
    rintro e wq ⟨rfl, rfl⟩
    go_wp2_with (first
      | ((with_reducible refine build_row (o := ⟨some 15, _, _, _, _, _⟩) rfl _ _ rfl [.int .i64 0, .int .i64 0, .int .i64 0, .slice none 0 0, .string ⟨#[]⟩] ?_ ?_); (focus (go_simp; exact built_none)))
      | ((with_reducible refine store_row (o := ⟨none, _, _, _, _, _⟩) rfl _ (.tmp 8) _ rfl w.heap.size [.int .i64 0, .int .i64 0, .int .i64 0, .slice none 0 0, .string ⟨#[]⟩] ?_ ?_ 25 _ HR1.out ?_ ?_ ?_ ?_); (focus go_simp); (focus go_simp); (focus (exact TS.out)); (focus rfl); (focus (exact tok_one _ _ _ _ _ _ _)); intro w6 hr6 hu6; have HR6 := Lib.hid hr6; have HB6 := Lib.hid (HB1.out.trans (hu6.below (Nat.le_refl _))); clear hr6 hu6))
    exact bodyPost_ret (results_row_tmp rfl _ _ w.heap.size 25 _ _ _ (by go_simp) HR6.out Tryd.underlying25 rfl TS.out) rfl ⟨by rw [HV.out]; rfl, HB6.out⟩
  · have HH := Lib.hid hh
    rw [hh] at hV
    have HV := Lib.hid (show V = .tuple #[.agg (tokC lane id epoch (.slice none 0 0) S).toArray, .int .i64 0] from hV.symm)
    clear hV hh
    go_enter Tryd.func10, Tryd.ntmps10
    go_wp2_with ((with_reducible refine alloc_row (o := ⟨some 8, _, _, _, _, _⟩) rfl _ rfl _ TZ.out ?_); intro w1 hr1 hb1 hz1; have HR1 := Lib.hid hr1; have HB1 := Lib.hid hb1; clear hr1 hb1 hz1)
    refine (head_any lane id epoch w1).mono ?_
    rw [HH.out]
    rintro e wq ⟨rfl, rfl⟩
    go_wp2_with fail
    refine (rtext08_any lane id epoch w1 HF.out).mono ?_
    rw [HE.out]
    rintro e w2 ⟨v2, rfl, hf2, hb2⟩
    obtain ⟨a2, c2, hv2, hr2⟩ := hf2.form' E.length rfl
    subst hv2
    have HRD := Lib.hid hr2
    have HR2 := Lib.hid (HR1.out.below hb2 HR1.out.lt)
    have HB2 := Lib.hid (HB1.out.trans (hb2.mono HB1.out.size))
    clear hf2 hb2 hr2
    go_wp2_with fail
    refine (rtag_any s a2 E.length c2 E w2 hs HRD.out (by have := HEL.out; omega)).mono ?_
    rw [HSE.out]
    rintro e w3 ⟨rfl, hb3⟩
    have HR3 := Lib.hid (HR2.out.below hb3 HR2.out.lt)
    have HB3 := Lib.hid (HB2.out.trans (hb3.mono HB2.out.size))
    clear hb3
    go_wp2_with (first
      | ((with_reducible refine build_row (o := ⟨some 25, _, _, _, _, _⟩) rfl _ _ rfl [.int .i64 lane, .int .i64 id, .int .i64 epoch, .slice none 0 0, .string S] ?_ ?_); (focus (go_simp; exact built_tok _ _ _ _)))
      | ((with_reducible refine store_row (o := ⟨none, _, _, _, _, _⟩) rfl _ (.tmp 8) _ rfl w.heap.size [.int .i64 lane, .int .i64 id, .int .i64 epoch, .slice none 0 0, .string S] ?_ ?_ 25 _ HR3.out ?_ ?_ ?_ ?_); (focus go_simp); (focus go_simp); (focus (exact TS.out)); (focus rfl); (focus (exact tok_one _ _ _ _ _ _ _)); intro w6 hr6 hu6; have HR6 := Lib.hid hr6; have HB6 := Lib.hid (HB3.out.trans (hu6.below (Nat.le_refl _))); clear hr6 hu6))
    exact bodyPost_ret (results_row_tmp rfl _ _ w.heap.size 25 _ _ _ (by go_simp) HR6.out Tryd.underlying25 rfl TS.out) rfl ⟨by rw [HV.out]; rfl, HB6.out⟩

end Go.Proofs.YtlclkikbocbenaaDoor.W
