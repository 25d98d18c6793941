/- CONTRACTS of layer 8 (token): Open of both. CONTRACTS of layer 8 (token): the reference's Open. -/
import Derived.Test.YtlclkikbocbenaaDoorTokG
import Derived.Test.YtlclkikbocbenaaDoorHmD
import Derived.Test.YtlclkikbocbenaaDoorTail
set_option linter.unusedSimpArgs false
set_option linter.unusedVariables false
namespace Go.Proofs.YtlclkikbocbenaaDoor.W
open Go.ChangeShapes Go.WideShapes Go.ChangeAt Go.RowKit
open Go.Proofs.YtlclkikbocbenaaDoor.P (enc)

def openV (s : ByteArray) (lane id epoch : Int) (L : List Cv) (tag : ByteArray) : Bool := tokOk lane id epoch L tag && decide (tag.data.toList = chainL (firstL s.data.toList lane id epoch) L)
theorem tokErr_no {lane id epoch : Int} {L : List Cv} {tag : ByteArray} (h : tokOk lane id epoch L tag = false) : tokErr lane id epoch L tag = 1 := by unfold tokErr; rw [h]; rfl
theorem tokErr_ok {lane id epoch : Int} {L : List Cv} {tag : ByteArray} (h : tokOk lane id epoch L tag = true) : tokErr lane id epoch L tag = 0 := by unfold tokErr; rw [h]; rfl
theorem headV_le {lane id epoch : Int} (h : headV lane id epoch = true) : ∀ z ∈ [lane, id, epoch], z ≤ 9223372036854775807 := by
  unfold headV at h
  simp only [Bool.and_eq_true, decide_eq_true_eq] at h
  exact three_fit _ _ _ (by omega) (by omega) (by omega)
theorem tokOk_facts {lane id epoch : Int} {L : List Cv} {tag : ByteArray} (h : tokOk lane id epoch L tag = true) : (∀ z ∈ [lane, id, epoch], z ≤ 9223372036854775807) ∧ tag.size = 32 ∧ L.length ≤ 8 := by
  unfold tokOk at h
  simp only [Bool.and_eq_true, decide_eq_true_eq] at h
  exact ⟨headV_le h.1, h.2.1, h.2.2.1⟩
theorem Row.t5 {w : World} {g : Nat} {t : TypeId} {a b c d e : Value} (h : Row w g t [a, b, c, d, e]) :
    w.cell? ⟨g, 0, none⟩ = some a ∧ w.cell? ⟨g, 1, none⟩ = some b ∧ w.cell? ⟨g, 2, none⟩ = some c ∧ w.cell? ⟨g, 3, none⟩ = some d ∧ w.cell? ⟨g, 4, none⟩ = some e := by
  refine ⟨?_, ?_, ?_, ?_, ?_⟩ <;> (rw [h.cellV]; rfl)

set_option maxRecDepth 100000 in
set_option maxHeartbeats 1000000 in
theorem tkopen_any (s : ByteArray) (lane id epoch : Int) (a : Option Addr) (len cap : Nat) (L : List Cv) (tag : ByteArray) (w : World) (hK : Ks w) (hs : s.size ≤ 50000000000000) (h : Cvs w a len cap L) :
    Calls Tryd.prog 16 #[.string s, .agg #[.int .i64 lane, .int .i64 id, .int .i64 epoch, .slice a len cap, .string tag]] w fun e w' => e = .returned (.bool (openV s lane id epoch L tag)) ∧ Below w.heap.size w w' := by
  have H := Lib.hid h
  have HK := Lib.hid hK
  have hlen := h.hlen
  obtain ⟨R, hR⟩ : ∃ R, openV s lane id epoch L tag = R := ⟨_, rfl⟩
  rw [hR]
  unfold openV at hR
  clear h hK
  rcases hok : tokOk lane id epoch L tag with _ | _
  · rw [hok, Bool.false_and] at hR
    have HRR := Lib.hid hR
    have HE := Lib.hid (tokErr_no hok)
    clear hR hok hlen
    go_enter Tryd.func16, Tryd.ntmps16
    go_wp2_with (first
        | ((with_reducible refine box_row (o := ⟨some 3, _, _, _, _, _⟩) rfl _ _ rfl [.int .i64 lane, .int .i64 id, .int .i64 epoch, .slice a len cap, .string tag] rfl ?_); intro w1 hr1 hb1 hz1; have HR1 := Lib.hid hr1; have HB1 := Lib.hid hb1; clear hr1 hb1 hz1; have g0 := HR1.out.cellV 0; have g1 := HR1.out.cellV 1; have g2 := HR1.out.cellV 2; have g3 := HR1.out.cellV 3; have g4 := HR1.out.cellV 4; simp only [List.getElem?_cons_zero, List.getElem?_cons_succ] at g0 g1 g2 g3 g4)
        | (go_at_call 35; refine (tkcheck_any lane id epoch a len cap L tag w1 (H.out.mono HB1.out)).mono ?_; rw [HE.out]; rintro e w2 ⟨rfl, hb2⟩; have HB2 := Lib.hid (HB1.out.trans (hb2.mono HB1.out.size)); clear hb2 g0 g1 g2 g3 g4))
    go_ret
    exact ⟨by rw [← HRR.out]; rfl, HB2.out⟩
  · obtain ⟨hf, hsz, hl8⟩ := tokOk_facts hok
    rw [hok, Bool.true_and] at hR
    have HF := Lib.hid hf
    have HSZ := Lib.hid hsz
    have HL8 := Lib.hid (show len ≤ 8 by rw [← hlen]; exact hl8)
    have HE := Lib.hid (tokErr_ok hok)
    obtain ⟨S, hS⟩ : ∃ S, str (firstL s.data.toList lane id epoch) = S := ⟨_, rfl⟩
    have hSs : S.size = 32 := by rw [← hS, str_size]; exact tagL_len _ _
    have hSd : S.data.toList = firstL s.data.toList lane id epoch := by rw [← hS, str_data]
    rw [← hSd] at hR
    obtain ⟨T, hT⟩ : ∃ T, str (chainL S.data.toList L) = T := ⟨_, rfl⟩
    have hTs : T.size ≤ 32 := by rw [← hT, str_size]; exact chain_len _ _ _ (by simp [hSs]) (Nat.le_refl _)
    have hTd : T.data.toList = chainL S.data.toList L := by rw [← hT, str_data]
    rw [← hTd] at hR
    have HRR := Lib.hid hR
    have HS := Lib.hid hS
    have HSS := Lib.hid hSs
    have HT := Lib.hid hT
    have HTS := Lib.hid hTs
    clear hR hok hlen hf hsz hl8 hS hSs hSd hT hTs hTd
    go_enter Tryd.func16, Tryd.ntmps16
    go_wp2_with (first
        | ((with_reducible refine box_row (o := ⟨some 3, _, _, _, _, _⟩) rfl _ _ rfl [.int .i64 lane, .int .i64 id, .int .i64 epoch, .slice a len cap, .string tag] rfl ?_); intro w1 hr1 hb1 hz1; have HR1 := Lib.hid hr1; have HB1 := Lib.hid hb1; clear hr1 hb1 hz1; have g0 := HR1.out.cellV 0; have g1 := HR1.out.cellV 1; have g2 := HR1.out.cellV 2; have g3 := HR1.out.cellV 3; have g4 := HR1.out.cellV 4; simp only [List.getElem?_cons_zero, List.getElem?_cons_succ] at g0 g1 g2 g3 g4)
        | (go_at_call 35; refine (tkcheck_any lane id epoch a len cap L tag w1 (H.out.mono HB1.out)).mono ?_; rw [HE.out]; rintro e w2 ⟨rfl, hb2⟩; have HB2 := Lib.hid (HB1.out.trans (hb2.mono HB1.out.size)); have HR2 := Lib.hid (HR1.out.below hb2 HR1.out.lt); clear hb2 g0 g1 g2 g3 g4))
    refine region_w (C := fun v => Below w2.heap.size w2 v) (by kernel_rfl) (by kernel_rfl) (Below.refl _ _).drew ?_
    repeat (first
      | ((with_reducible refine w_call (wanted_free rfl) 34 ?_ ?_ ?_ ?_ ?_); rotate_left; (focus (intro v; go_simp; rfl)); rotate_left; (focus (intro v hv; exact q_grow (first_any s lane id epoch v (HK.out.below (HB2.out.trans (hv.mono HB2.out.size)) HK.out.pos) hs HF.out) (by rw [HS.out]) hv)); go_simp)
      | ((with_reducible refine w_call (wanted_free rfl) 18 ?_ ?_ ?_ ?_ ?_); rotate_left; (focus (intro v; go_simp; rfl)); rotate_left; (focus (intro v hv; exact q_grow (chain_any S a len cap L v (HK.out.below (HB2.out.trans (hv.mono HB2.out.size)) HK.out.pos) (by rw [HSS.out]; decide) ((H.out.mono HB2.out).mono hv) (Nat.le_trans HL8.out (by decide))) (by rw [HT.out]) hv)); go_simp)
      | ((with_reducible refine w_call (wanted_free rfl) 40 ?_ ?_ ?_ ?_ ?_); rotate_left; (focus (intro v; go_simp; rfl)); rotate_left; (focus (intro v hv; exact q_same (equal_b tag T v R (by rw [HSZ.out]; decide) (Nat.le_trans HTS.out (by decide)) HRR.out) (by rfl) hv)); go_simp)
      | ((with_reducible refine w_read (wanted_free rfl) ?_ ?_ ?_); rotate_left; (focus (intro v hv; obtain ⟨f0, f1, f2, f3, f4⟩ := (HR2.out.below hv HR2.out.lt).t5; go_simp; rfl)); go_simp))
    refine w_nil ?_
    intro w4 hb4
    go_wp2_with fail
    go_ret
    exact ⟨rfl, HB2.out.trans (hb4.mono HB2.out.size)⟩

end Go.Proofs.YtlclkikbocbenaaDoor.W

namespace Go.Proofs.YtlclkikbocbenaaDoor.W
open Go.ChangeShapes Go.WideShapes Go.ChangeAt Go.RowKit
open Go.Proofs.YtlclkikbocbenaaDoor.P (enc)

set_option maxRecDepth 100000 in
set_option maxHeartbeats 1000000 in
theorem utopen_any (s : ByteArray) (lane id epoch : Int) (a : Option Addr) (len cap : Nat) (L : List Cv) (tag : ByteArray) (w : World) (hs : s.size ≤ 50000000000000) (h : Cvs w a len cap L) :
    Calls Tryd.prog 17 #[.string s, .agg #[.int .i64 lane, .int .i64 id, .int .i64 epoch, .slice a len cap, .string tag]] w fun e w' => e = .returned (.bool (openV s lane id epoch L tag)) ∧ Below w.heap.size w w' := by
  have H := Lib.hid h
  have hlen := h.hlen
  obtain ⟨R, hR⟩ : ∃ R, openV s lane id epoch L tag = R := ⟨_, rfl⟩
  rw [hR]
  unfold openV at hR
  clear h
  rcases hok : tokOk lane id epoch L tag with _ | _
  · rw [hok, Bool.false_and] at hR
    have HRR := Lib.hid hR
    have HE := Lib.hid (tokErr_no hok)
    clear hR hok hlen
    go_enter Tryd.func17, Tryd.ntmps17
    go_wp2_with ((with_reducible refine box_row (o := ⟨some 3, _, _, _, _, _⟩) rfl _ _ rfl [.int .i64 lane, .int .i64 id, .int .i64 epoch, .slice a len cap, .string tag] rfl ?_); intro w1 hr1 hb1 hz1; have HR1 := Lib.hid hr1; have HB1 := Lib.hid hb1; clear hr1 hb1 hz1)
    refine region_w (C := fun v => Below w1.heap.size w1 v) (by kernel_rfl) (by kernel_rfl) (Below.refl _ _).drew ?_
    repeat (first
      | ((with_reducible refine w_call (wanted_free rfl) 41 ?_ ?_ ?_ ?_ ?_); rotate_left; (focus (intro v; go_simp; rfl)); rotate_left; (focus (intro v hv; exact q_grow (utcheck_any lane id epoch a len cap L tag v ((H.out.mono HB1.out).mono hv)) (by rw [HE.out]) hv)); go_simp)
      | ((with_reducible refine w_skip ?_ ?_); (focus (go_simp; first | done | (intro h; cases h) | simp)); go_simp)
      | ((with_reducible refine w_read (wanted_free rfl) ?_ ?_ ?_); rotate_left; (focus (intro v hv; obtain ⟨f0, f1, f2, f3, f4⟩ := (HR1.out.below hv HR1.out.lt).t5; go_simp; rfl)); go_simp))
    refine w_nil ?_
    intro w4 hb4
    go_wp2_with fail
    go_ret
    exact ⟨by rw [← HRR.out]; rfl, HB1.out.trans (hb4.mono HB1.out.size)⟩
  · obtain ⟨hf, hsz, hl8⟩ := tokOk_facts hok
    rw [hok, Bool.true_and] at hR
    have HF := Lib.hid hf
    have HL8 := Lib.hid (show len ≤ 8 by rw [← hlen]; exact hl8)
    have HE := Lib.hid (tokErr_ok hok)
    have hel := encz_len [lane, id, epoch] hf
    obtain ⟨E, hE⟩ : ∃ E, textT lane id epoch = E := ⟨_, rfl⟩
    have hEl : E.length ≤ 40 := by rw [← hE, textT, List.length_append]; simp only [tokW, List.length_cons, List.length_nil] at hel ⊢; omega
    obtain ⟨S, hS⟩ : ∃ S, str (firstL s.data.toList lane id epoch) = S := ⟨_, rfl⟩
    have hSs : S.size = 32 := by rw [← hS, str_size]; exact tagL_len _ _
    have hSd : S.data.toList = firstL s.data.toList lane id epoch := by rw [← hS, str_data]
    have HSE := Lib.hid (show str (tagL s.data.toList E) = S by rw [← hS, firstL, hE])
    have HE0 := Lib.hid hE
    have HEL := Lib.hid hEl
    rw [← hSd] at hR
    obtain ⟨T, hT⟩ : ∃ T, str (chainL S.data.toList L) = T := ⟨_, rfl⟩
    have hTd : T.data.toList = chainL S.data.toList L := by rw [← hT, str_data]
    rw [← hTd, ← str_eqb] at hR
    have HRR := Lib.hid hR
    have HSS := Lib.hid hSs
    have HT := Lib.hid hT
    clear hR hok hlen hf hsz hl8 hS hSs hSd hT hTd hel hE hEl
    go_enter Tryd.func17, Tryd.ntmps17
    go_wp2_with ((with_reducible refine box_row (o := ⟨some 3, _, _, _, _, _⟩) rfl _ _ rfl [.int .i64 lane, .int .i64 id, .int .i64 epoch, .slice a len cap, .string tag] rfl ?_); intro w1 hr1 hb1 hz1; have HR1 := Lib.hid hr1; have HB1 := Lib.hid hb1; clear hr1 hb1 hz1)
    have HD1 : Hid (Below w1.heap.size w1 w1.drew) := Lib.hid (Below.refl _ _).drew
    refine region_h (fun v => Below w1.heap.size w1 v) (by kernel_rfl) (by kernel_rfl) HD1.out ?_
    obtain ⟨wd, hwd⟩ : ∃ wd, w1.drew = wd := ⟨_, rfl⟩
    rw [hwd] at HD1 ⊢
    clear hwd
    (refine h_read 0 rfl (by kernel_rfl) (by kernel_rfl) (h_free rfl) ?_ ?_ ?_; rotate_left; (focus (intro v hv; obtain ⟨f0, f1, f2, f3, f4⟩ := (HR1.out.below hv HR1.out.lt).t5; go_simp; rfl)); go_simp)
    (refine h_call 1 rfl (by kernel_rfl) (h_free rfl) 41 ?_ ?_ ?_; rotate_left; (focus (go_simp; rfl)))
    refine (utcheck_any lane id epoch a len cap L tag _ ((H.out.mono HB1.out).mono HD1.out)).mono ?_
    rw [HE.out]
    rintro e w2 ⟨rfl, hb2⟩
    have HB2 := Lib.hid (HD1.out.trans (hb2.mono HD1.out.size))
    clear hb2
    refine ⟨_, rfl, HB2.out, ?_⟩
    go_simp
    (refine h_read 2 rfl (by kernel_rfl) (by kernel_rfl) (h_free rfl) ?_ ?_ ?_; rotate_left; (focus (intro v hv; go_simp; rfl)); go_simp)
    (refine h_read 3 rfl (by kernel_rfl) (by kernel_rfl) (h_free rfl) ?_ ?_ ?_; rotate_left; (focus (intro v hv; go_simp; rfl)); go_simp)
    (refine h_read 4 rfl (by kernel_rfl) (by kernel_rfl) ?_ ?_ ?_ ?_; (focus (go_simp; done)); rotate_left; (focus (intro v hv; go_simp; rfl)); go_simp)
    (refine h_read 5 rfl (by kernel_rfl) (by kernel_rfl) ?_ ?_ ?_ ?_; (focus (go_simp; done)); rotate_left; (focus (intro v hv; obtain ⟨f0, f1, f2, f3, f4⟩ := (HR1.out.below hv HR1.out.lt).t5; go_simp; rfl)); go_simp)
    (refine h_read 6 rfl (by kernel_rfl) (by kernel_rfl) ?_ ?_ ?_ ?_; (focus (go_simp; done)); rotate_left; (focus (intro v hv; go_simp; rfl)); go_simp)
    (refine h_read 7 rfl (by kernel_rfl) (by kernel_rfl) ?_ ?_ ?_ ?_; (focus (go_simp; done)); rotate_left; (focus (intro v hv; go_simp; rfl)); go_simp)
    (refine h_read 8 rfl (by kernel_rfl) (by kernel_rfl) ?_ ?_ ?_ ?_; (focus (go_simp; done)); rotate_left; (focus (intro v hv; obtain ⟨f0, f1, f2, f3, f4⟩ := (HR1.out.below hv HR1.out.lt).t5; go_simp; rfl)); go_simp)
    (refine h_read 9 rfl (by kernel_rfl) (by kernel_rfl) ?_ ?_ ?_ ?_; (focus (go_simp; done)); rotate_left; (focus (intro v hv; go_simp; rfl)); go_simp)
    (refine h_read 10 rfl (by kernel_rfl) (by kernel_rfl) ?_ ?_ ?_ ?_; (focus (go_simp; done)); rotate_left; (focus (intro v hv; obtain ⟨f0, f1, f2, f3, f4⟩ := (HR1.out.below hv HR1.out.lt).t5; go_simp; rfl)); go_simp)
    (refine h_read 11 rfl (by kernel_rfl) (by kernel_rfl) ?_ ?_ ?_ ?_; (focus (go_simp; done)); rotate_left; (focus (intro v hv; go_simp; rfl)); go_simp)
    (refine h_read 12 rfl (by kernel_rfl) (by kernel_rfl) ?_ ?_ ?_ ?_; (focus (go_simp; done)); rotate_left; (focus (intro v hv; obtain ⟨f0, f1, f2, f3, f4⟩ := (HR1.out.below hv HR1.out.lt).t5; go_simp; rfl)); go_simp)
    (refine h_read 15 rfl (by kernel_rfl) (by kernel_rfl) ?_ ?_ ?_ ?_; (focus (go_simp; done)); rotate_left; (focus (intro v hv; go_simp; rfl)); go_simp)
    (refine h_read 16 rfl (by kernel_rfl) (by kernel_rfl) ?_ ?_ ?_ ?_; (focus (go_simp; done)); rotate_left; (focus (intro v hv; obtain ⟨f0, f1, f2, f3, f4⟩ := (HR1.out.below hv HR1.out.lt).t5; go_simp; rfl)); go_simp)
    (refine h_call 13 rfl (by kernel_rfl) ?_ 14 ?_ ?_ ?_; (focus (go_simp; done)); rotate_left; (focus (go_simp; rfl)))
    refine (rtext08_any lane id epoch w2 HF.out).mono ?_
    rw [HE0.out]
    rintro e w3 ⟨v3, rfl, hf3, hb3⟩
    obtain ⟨a3, c3, hv3, hr3⟩ := hf3.form' E.length rfl
    subst hv3
    have HR3 := Lib.hid hr3
    have HB3 := Lib.hid (HB2.out.trans (hb3.mono HB2.out.size))
    clear hf3 hb3 hr3
    refine ⟨_, rfl, HB3.out, ?_⟩
    go_simp
    (refine h_call 14 rfl (by kernel_rfl) ?_ 37 ?_ ?_ ?_; (focus (go_simp; done)); rotate_left; (focus (go_simp; rfl)))
    refine (rtag_any s a3 E.length c3 E w3 hs HR3.out (by have := HEL.out; omega)).mono ?_
    rw [HSE.out]
    rintro e w4 ⟨rfl, hb4⟩
    have HB4 := Lib.hid (HB3.out.trans (hb4.mono HB3.out.size))
    clear hb4
    refine ⟨_, rfl, HB4.out, ?_⟩
    go_simp
    (refine h_call 17 rfl (by kernel_rfl) ?_ 19 ?_ ?_ ?_; (focus (go_simp; done)); rotate_left; (focus (go_simp; rfl)))
    refine (rchain_any S a len cap L w4 (by rw [HSS.out]; decide) ((H.out.mono HB1.out).mono HB4.out) (Nat.le_trans HL8.out (by decide))).mono ?_
    rw [HT.out]
    rintro e w5 ⟨rfl, hb5⟩
    have HB5 := Lib.hid (HB4.out.trans (hb5.mono HB4.out.size))
    clear hb5
    refine ⟨_, rfl, HB5.out, ?_⟩
    go_simp
    (refine h_read 18 rfl (by kernel_rfl) (by kernel_rfl) ?_ ?_ ?_ ?_; (focus (go_simp; done)); rotate_left; (focus (intro v hv; go_simp; rfl)); go_simp)
    (refine h_read 19 rfl (by kernel_rfl) (by kernel_rfl) (h_free rfl) ?_ ?_ ?_; rotate_left; (focus (intro v hv; go_simp; rfl)); go_simp)
    (refine h_read 20 rfl (by kernel_rfl) (by kernel_rfl) (h_free rfl) ?_ ?_ ?_; rotate_left; (focus (intro v hv; go_simp; rfl)); go_simp)
    refine h_done (by kernel_rfl) ?_
    go_wp2_with fail
    go_ret
    exact ⟨by rw [← HRR.out]; rfl, HB1.out.trans (HB5.out.mono HB1.out.size)⟩

end Go.Proofs.YtlclkikbocbenaaDoor.W
