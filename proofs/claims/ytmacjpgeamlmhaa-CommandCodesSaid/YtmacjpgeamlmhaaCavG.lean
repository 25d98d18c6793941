/- CONTRACTS of layer 6 (caveat): reading a caveat (the program's). -/
import Derived.Test.YtmacjpgeamlmhaaCavD
import Derived.Test.YtmacjpgeamlmhaaPackR5
import Derived.Laws.ResultCell
set_option linter.unusedSimpArgs false
set_option linter.unusedVariables false
namespace Go.Proofs.Ytmacjpgeamlmhaa.W
open Go.ChangeShapes Go.WideShapes Go.ChangeAt Go.RowKit

theorem cv_zero : (Try.prog.info? 51).map (·.zero) = some (some (.agg [.int .i64 0, .int .i64 0, .string ⟨#[]⟩].toArray)) := by kernel_rfl
theorem numR_zero {most : Int} {l : List UInt8} {e : Int} (h : (numR most l e).2.2 ≠ 0) : (numR most l e).1 = 0 := by
  unfold numR at h ⊢
  split
  · rfl
  · rename_i h1
    rw [if_neg h1] at h
    split
    · rfl
    · rename_i h2
      rw [if_neg h2] at h
      split
      · rfl
      · rename_i h3; rw [if_neg h3] at h; simp at h
theorem textR_none {most : Int} {l : List UInt8} {e : Int} (h : (textR most l e).2.2 ≠ 0) : (textR most l e).1 = [] := by
  unfold textR at h ⊢
  split
  · rfl
  · rename_i h1
    rw [if_neg h1] at h
    split
    · rfl
    · rename_i h2; rw [if_neg h2] at h; simp at h
theorem numR_le {most : Int} {l : List UInt8} (hm : 0 ≤ most) (h : (numR most l 0).2.2 = 0 ∨ (numR most l 0).2.2 ≠ 0) : ((numR most l 0).1 : Int) ≤ most := by
  rcases h with h | h
  · exact (num_back most l h).2
  · rw [numR_zero h]; exact hm
theorem err_num (k n : Int) (hp : partsV k = 1) (h0 : 0 ≤ n) (h1 : n ≤ mostV k) : Cv.err ⟨k, n, ⟨#[]⟩⟩ = 0 := by
  have h : Cv.ok ⟨k, n, ⟨#[]⟩⟩ = true := by
    unfold Cv.ok fitsV; simp only [hp]; simp [h0, h1]
  unfold Cv.err; rw [h]; rfl
theorem err_none (k : Int) (hp : partsV k = 0) : Cv.err ⟨k, 0, ⟨#[]⟩⟩ = 1 := by
  have h : Cv.ok ⟨k, 0, ⟨#[]⟩⟩ = false := by unfold Cv.ok; simp only [hp]; simp
  unfold Cv.err; rw [h]; rfl
theorem err_name (k : Int) (s : ByteArray) (hp : partsV k = 2) : Cv.err ⟨k, 0, s⟩ = if nameV s = true then 0 else 1 := by
  have hm := most_pos k
  have h : Cv.ok ⟨k, 0, s⟩ = nameV s := by unfold Cv.ok fitsV; simp only [hp]; simp [hm.1]
  unfold Cv.err; rw [h]

/-- a reader stays where a caveat's block is written -/
theorem RP.cv {w w' : World} {p g : Nat} {l : List UInt8} {e a b : Int} {s : ByteArray} (h : RP w p l e) (hg : Row w g 51 [.int .i64 a, .int .i64 b, .string s]) (hu : Upd w w' g) : RP w' p l e := by
  obtain ⟨x, cap, hh, hr⟩ := h.ex
  have hpq : p ≠ g := by
    rintro rfl
    unfold Row at hg
    rw [hh] at hg
    simp at hg
  exact ⟨⟨x, cap, by rw [hu.block p hpq]; exact hh, hr.upd' hu (hr.apart hg (by intro y hy; simp [B] at hy))⟩, h.small, h.hnone⟩
theorem RR.cv {w w' : World} {p g : Nat} {l : List UInt8} {e a b : Int} {s : ByteArray} (h : RR w p l e) (hg : Row w g 51 [.int .i64 a, .int .i64 b, .string s]) (hu : Upd w w' g) : RR w' p l e := by
  obtain ⟨x, cap, hh, hr⟩ := h.ex
  have hpq : p ≠ g := by
    rintro rfl
    unfold Row at hg
    rw [hh] at hg
    simp at hg
  exact ⟨⟨x, cap, by rw [hu.block p hpq]; exact hh, hr.upd' hu (hr.apart hg (by intro y hy; simp [B] at hy))⟩, h.small, h.hnone⟩

set_option maxRecDepth 100000 in
set_option maxHeartbeats 1000000 in
theorem cread_none (p : Nat) (l : List UInt8) (e : Int) (w : World) (h : RP w p l e) (K : Nat) (l1 : List UInt8) (e1 : Int) (hK : (numR 6 l e).1 = K) (hl1 : (numR 6 l e).2.1 = l1) (he1 : (numR 6 l e).2.2 = e1) (hp : partsV (K : Int) = 0) :
    Calls Try.prog 88 #[.pointer (some ⟨p, 0, none⟩)] w fun x w' => x = .returned (default : Cv).val ∧ RP w' p (failL l1 e1 3) (failE e1 3) ∧ Gw p w w' := by
  have HP := Lib.hid h
  have CZ := Lib.hid cv_zero
  have CSZ := Lib.hid cv_size
  have HK := Lib.hid hK
  have HL1 := Lib.hid hl1
  have HE1 := Lib.hid he1
  have HPT := Lib.hid hp
  have hk6 : (K : Int) ≤ 6 := by
    rw [← hK]
    by_cases he : e = 0
    · subst he; exact numR_le (by decide) (Decidable.em _)
    · rw [numR_err he]; exact (by decide : ((0 : Nat) : Int) ≤ 6)
  have HFIT := Lib.hid (show Cv.fit ⟨K, 0, ⟨#[]⟩⟩ from cv_fit_of _ _ _ (by omega) (by omega) (by decide) (by decide) (by decide))
  have HER := Lib.hid (err_none (K : Int) hp)
  have hfe : failE e1 3 ≠ 0 := by unfold failE; split <;> simp_all
  have b1 : (bits .and .i64 0 1 != 0) = false := by decide
  have b2 : (bits .and .i64 0 2 != 0) = false := by decide
  obtain ⟨FE, hFE⟩ : ∃ FE, failE e1 3 = FE := ⟨_, rfl⟩
  have hfe2 : (FE != 0) = true := by rw [← hFE]; simpa using hfe
  have HFE := Lib.hid hFE
  clear h hK hl1 he1 hp hk6 hfe hFE
  go_enter Try.func88, Try.ntmps88
  go_wp2_with (with_reducible refine alloc_row (o := ⟨some 2, _, _, _, _, _⟩) rfl _ rfl _ CZ.out ?_; intro w1 hr1 hb1 hz1; have HR1 := Lib.hid hr1; have HP1 := Lib.hid (HP.out.mono hb1); have HG1 := Lib.hid (show Gw p w w1 from Gw.of_below hb1); have HN1 := Lib.hid (show w.heap.size ≠ p by have := HP.out.lt; omega); clear hr1 hb1 hz1)
  refine (pnumR p 6 l e w1 HP1.out).mono ?_
  rw [HK.out, HL1.out, HE1.out]
  rintro x w2 ⟨rfl, hP2, hu2⟩
  have HP2 := Lib.hid hP2
  have HG2 := Lib.hid (HG1.out.trans (Gw.upd hu2))
  have HR2 := Lib.hid (HR1.out.upd hu2 HN1.out)
  clear hP2 hu2
  go_wp2_with (first
    | (with_reducible refine alloc_row (o := ⟨some 3, _, _, _, _, _⟩) rfl _ rfl _ CZ.out ?_; intro w3 hr3 hb3 hz3; have HR3 := Lib.hid hr3; have HB3 := Lib.hid hb3; have HRA := Lib.hid (HR2.out.below hb3 HR2.out.lt); have HN3 := Lib.hid (show w2.heap.size ≠ p by have := HP2.out.lt; omega); have HNA := Lib.hid (show w.heap.size ≠ w2.heap.size by have := HR2.out.lt; omega); clear hr3 hb3 hz3)
    | (refine store_row (o := ⟨none, _, _, _, _, _⟩) rfl _ _ _ rfl w2.heap.size [.int .i64 (K : Int), .int .i64 0, .string ⟨#[]⟩] (by go_simp) (by go_simp) 51 _ HR3.out CSZ.out rfl (by intro v hv; simp at hv; rcases hv with rfl | rfl | rfl <;> rfl) ?_; intro w4 hr4 hu4; have HR4 := Lib.hid hr4; have HRB := Lib.hid (HRA.out.upd hu4 HNA.out); have HB4 := Lib.hid (HB3.out.trans (hu4.below (Nat.le_refl _))); clear hr4 hu4; have f0 := HR4.out.c0; have f1 := HR4.out.c1; have f2 := HR4.out.c2)
    | (go_at_call 94; refine (cparts _ _).mono ?_; rw [HPT.out]; rintro e w' ⟨rfl, rfl⟩))
  refine (ccheck ⟨K, 0, ⟨#[]⟩⟩ w4 HFIT.out).mono ?_
  rw [HER.out]
  rintro x w5 ⟨rfl, hb5⟩
  have HB5 := Lib.hid (HB4.out.trans (hb5.mono HB4.out.size))
  have HRC := Lib.hid (HRB.out.below hb5 HRB.out.lt)
  have HP5 := Lib.hid (HP2.out.mono HB5.out)
  clear hb5 f0 f1 f2
  go_wp2_with fail
  refine (pfail p l1 e1 3 w5 HP5.out).mono ?_
  rw [HFE.out]
  rintro x w6 ⟨rfl, hP6, hu6⟩
  have HP6 := Lib.hid hP6
  have HG6 := Lib.hid ((HG2.out.trans (Gw.of_below HB5.out)).trans (Gw.upd hu6))
  have HRD := Lib.hid (HRC.out.upd hu6 HN1.out)
  clear hP6 hu6
  go_wp2_with fail
  refine (perr p _ _ w6 HP6.out).mono ?_
  rintro x w7 ⟨rfl, rfl⟩
  go_wp2_with (refine store_row (o := ⟨none, _, _, _, _, _⟩) rfl _ _ _ rfl w.heap.size [.int .i64 0, .int .i64 0, .string ⟨#[]⟩] (by go_simp) (by go_simp) 51 _ HRD.out CSZ.out rfl (by intro v hv; simp at hv; rcases hv with rfl | rfl <;> rfl) ?_; intro w8 hr8 hu8; have HR8 := Lib.hid hr8; have HP8 := Lib.hid (HP6.out.cv HRD.out hu8); have HG8 := Lib.hid (HG6.out.tail (Nat.le_refl _) hu8); clear hr8 hu8)
  exact bodyPost_ret (results_cell_row rfl _ _ w.heap.size 51 _ _ _ (by go_simp) HR8.out Try.underlying51 rfl CSZ.out) rfl ⟨rfl, by rw [HFE.out]; exact HP8.out, HG8.out⟩
set_option maxRecDepth 100000 in
set_option maxHeartbeats 1000000 in
theorem cread_num_bad (p : Nat) (l : List UInt8) (e : Int) (w : World) (h : RP w p l e) (K : Nat) (l1 : List UInt8) (hK : (numR 6 l e).1 = K) (hl1 : (numR 6 l e).2.1 = l1) (he1 : (numR 6 l e).2.2 = 0) (hp : partsV (K : Int) = 1) (n : Nat) (l2 : List UInt8) (e2 : Int) (hN : (numR (mostV (K : Int)) l1 0).1 = n) (hl2 : (numR (mostV (K : Int)) l1 0).2.1 = l2) (he2 : (numR (mostV (K : Int)) l1 0).2.2 = e2) (hbad : e2 ≠ 0) :
    Calls Try.prog 88 #[.pointer (some ⟨p, 0, none⟩)] w fun x w' => x = .returned (default : Cv).val ∧ RP w' p l2 e2 ∧ Gw p w w' := by
  have HP := Lib.hid h
  have CZ := Lib.hid cv_zero
  have CSZ := Lib.hid cv_size
  have HK := Lib.hid hK
  have HL1 := Lib.hid hl1
  have HE1 := Lib.hid he1
  have HPT := Lib.hid hp
  have hk6 : (K : Int) ≤ 6 := by
    rw [← hK]
    by_cases he : e = 0
    · subst he; exact numR_le (by decide) (Decidable.em _)
    · rw [numR_err he]; exact (by decide : ((0 : Nat) : Int) ≤ 6)
  have hmp := most_pos (K : Int)
  obtain ⟨M, hM⟩ : ∃ M, mostV (K : Int) = M := ⟨_, rfl⟩
  rw [hM] at hmp hN hl2 he2
  have HM := Lib.hid hM
  have HN := Lib.hid hN
  have HL2 := Lib.hid hl2
  have HE2 := Lib.hid he2
  have hnle : (n : Int) ≤ M := by rw [← hN]; exact numR_le hmp.1 (Decidable.em _)
  have HFIT := Lib.hid (show Cv.fit ⟨K, n, ⟨#[]⟩⟩ from cv_fit_of _ _ _ (by omega) (by omega) (by omega) (by omega) (by decide))
  have HER := Lib.hid (err_num (K : Int) n hp (by omega) (by rw [hM]; exact hnle))
  have b1 : (bits .and .i64 1 1 != 0) = true := by decide
  have b2 : (bits .and .i64 1 2 != 0) = false := by decide
  have b3 : (e2 != 0) = true := by simpa using hbad
  clear hbad
  clear hN hl2 he2 hM hmp hnle
  clear h hK hl1 he1 hp hk6
  go_enter Try.func88, Try.ntmps88
  go_wp2_with (with_reducible refine alloc_row (o := ⟨some 2, _, _, _, _, _⟩) rfl _ rfl _ CZ.out ?_; intro w1 hr1 hb1 hz1; have HR1 := Lib.hid hr1; have HP1 := Lib.hid (HP.out.mono hb1); have HG1 := Lib.hid (show Gw p w w1 from Gw.of_below hb1); have HN1 := Lib.hid (show w.heap.size ≠ p by have := HP.out.lt; omega); clear hr1 hb1 hz1)
  refine (pnumR p 6 l e w1 HP1.out).mono ?_
  rw [HK.out, HL1.out, HE1.out]
  rintro x w2 ⟨rfl, hP2, hu2⟩
  have HP2 := Lib.hid hP2
  have HG2 := Lib.hid (HG1.out.trans (Gw.upd hu2))
  have HR2 := Lib.hid (HR1.out.upd hu2 HN1.out)
  clear hP2 hu2
  go_wp2_with (first
    | (with_reducible refine alloc_row (o := ⟨some 3, _, _, _, _, _⟩) rfl _ rfl _ CZ.out ?_; intro w3 hr3 hb3 hz3; have HR3 := Lib.hid hr3; have HB3 := Lib.hid hb3; have HRA := Lib.hid (HR2.out.below hb3 HR2.out.lt); have HN3 := Lib.hid (show w2.heap.size ≠ p by have := HP2.out.lt; omega); have HNA := Lib.hid (show w.heap.size ≠ w2.heap.size by have := HR2.out.lt; omega); clear hr3 hb3 hz3)
    | (refine store_row (o := ⟨none, _, _, _, _, _⟩) rfl _ _ _ rfl w2.heap.size [.int .i64 (K : Int), .int .i64 0, .string ⟨#[]⟩] (by go_simp) (by go_simp) 51 _ HR3.out CSZ.out rfl (by intro v hv; simp at hv; rcases hv with rfl | rfl | rfl <;> rfl) ?_; intro w4 hr4 hu4; have HR4 := Lib.hid hr4; have HRB := Lib.hid (HRA.out.upd hu4 HNA.out); have HB4 := Lib.hid (HB3.out.trans (hu4.below (Nat.le_refl _))); clear hr4 hu4; have f0 := HR4.out.c0; have f1 := HR4.out.c1; have f2 := HR4.out.c2)
    | (go_at_call 94; refine (cparts _ _).mono ?_; rw [HPT.out]; rintro e w' ⟨rfl, rfl⟩)
    | (go_at_call 95; refine (cmost _ _).mono ?_; rw [HM.out]; rintro e w' ⟨rfl, rfl⟩))
  refine (pnumR p M l1 0 w4 (HP2.out.mono HB4.out)).mono ?_
  rw [HN.out, HL2.out, HE2.out]
  rintro x w5 ⟨rfl, hP5, hu5⟩
  have HP5 := Lib.hid hP5
  have HR5 := Lib.hid (HR4.out.upd hu5 HN3.out)
  have HRB5 := Lib.hid (HRB.out.upd hu5 HN1.out)
  have HG5 := Lib.hid ((HG2.out.trans (Gw.of_below HB4.out)).trans (Gw.upd hu5))
  have HS5 := Lib.hid (show w.heap.size ≤ w2.heap.size from HG2.out.size)
  clear hP5 hu5 f0 f1 f2
  have f0 := HR5.out.c0
  have f1 := HR5.out.c1
  have f2 := HR5.out.c2
  have z1 := HR5.out.frozen 1
  go_wp2_with fail
  obtain ⟨w6, hw6⟩ : ∃ w6, w6 = w5.setCell ⟨w2.heap.size, 1, none⟩ (.int .i64 (n : Int)) := ⟨_, rfl⟩
  rw [← hw6]
  have hu6 : Upd w5 w6 w2.heap.size := by rw [hw6]; exact Upd.setCell _ _ _ _
  have HR6 := Lib.hid (show Row w6 w2.heap.size 51 [.int .i64 (K : Int), .int .i64 (n : Int), .string ⟨#[]⟩] by rw [hw6]; exact HR5.out.setV 1 _)
  have HP6 := Lib.hid (HP5.out.cv HR5.out hu6)
  have HRB6 := Lib.hid (HRB5.out.upd hu6 HNA.out)
  have HG6 := Lib.hid (HG5.out.tail HS5.out hu6)
  clear f0 f1 f2 z1 hw6 hu6
  refine (ccheck ⟨K, n, ⟨#[]⟩⟩ w6 HFIT.out).mono ?_
  rw [HER.out]
  rintro x w7 ⟨rfl, hb7⟩
  have HP7 := Lib.hid (HP6.out.mono hb7)
  have HR7 := Lib.hid (HR6.out.below hb7 HR6.out.lt)
  have HRB7 := Lib.hid (HRB6.out.below hb7 HRB6.out.lt)
  have HG7 := Lib.hid (HG6.out.trans (Gw.of_below hb7))
  clear hb7
  have f0 := HR7.out.c0
  have f1 := HR7.out.c1
  have f2 := HR7.out.c2
  go_wp2_with fail
  refine (perr p _ _ w7 HP7.out).mono ?_
  rintro x w8 ⟨rfl, rfl⟩
  go_wp2_with (refine store_row (o := ⟨none, _, _, _, _, _⟩) rfl _ _ _ rfl w.heap.size [.int .i64 0, .int .i64 0, .string ⟨#[]⟩] (by go_simp) (by go_simp) 51 _ HRB7.out CSZ.out rfl (by intro v hv; simp at hv; rcases hv with rfl | rfl | rfl <;> rfl) ?_; intro w8 hr8 hu8; have HR8 := Lib.hid hr8; have HP8 := Lib.hid (HP7.out.cv HRB7.out hu8); have HG8 := Lib.hid (HG7.out.tail (Nat.le_refl _) hu8); clear hr8 hu8)
  exact bodyPost_ret (results_cell_row rfl _ _ w.heap.size 51 _ _ _ (by go_simp) HR8.out Try.underlying51 rfl CSZ.out) rfl ⟨rfl, HP8.out, HG8.out⟩

set_option maxRecDepth 100000 in
set_option maxHeartbeats 1000000 in
theorem cread_num_ok (p : Nat) (l : List UInt8) (e : Int) (w : World) (h : RP w p l e) (K : Nat) (l1 : List UInt8) (hK : (numR 6 l e).1 = K) (hl1 : (numR 6 l e).2.1 = l1) (he1 : (numR 6 l e).2.2 = 0) (hp : partsV (K : Int) = 1) (n : Nat) (l2 : List UInt8) (e2 : Int) (hN : (numR (mostV (K : Int)) l1 0).1 = n) (hl2 : (numR (mostV (K : Int)) l1 0).2.1 = l2) (he2 : (numR (mostV (K : Int)) l1 0).2.2 = e2) (hok : e2 = 0) :
    Calls Try.prog 88 #[.pointer (some ⟨p, 0, none⟩)] w fun x w' => x = .returned (⟨K, n, ⟨#[]⟩⟩ : Cv).val ∧ RP w' p l2 e2 ∧ Gw p w w' := by
  have HP := Lib.hid h
  have CZ := Lib.hid cv_zero
  have CSZ := Lib.hid cv_size
  have HK := Lib.hid hK
  have HL1 := Lib.hid hl1
  have HE1 := Lib.hid he1
  have HPT := Lib.hid hp
  have hk6 : (K : Int) ≤ 6 := by
    rw [← hK]
    by_cases he : e = 0
    · subst he; exact numR_le (by decide) (Decidable.em _)
    · rw [numR_err he]; exact (by decide : ((0 : Nat) : Int) ≤ 6)
  have hmp := most_pos (K : Int)
  obtain ⟨M, hM⟩ : ∃ M, mostV (K : Int) = M := ⟨_, rfl⟩
  rw [hM] at hmp hN hl2 he2
  have HM := Lib.hid hM
  have HN := Lib.hid hN
  have HL2 := Lib.hid hl2
  have HE2 := Lib.hid he2
  have hnle : (n : Int) ≤ M := by rw [← hN]; exact numR_le hmp.1 (Decidable.em _)
  have HFIT := Lib.hid (show Cv.fit ⟨K, n, ⟨#[]⟩⟩ from cv_fit_of _ _ _ (by omega) (by omega) (by omega) (by omega) (by decide))
  have HER := Lib.hid (err_num (K : Int) n hp (by omega) (by rw [hM]; exact hnle))
  have b1 : (bits .and .i64 1 1 != 0) = true := by decide
  have b2 : (bits .and .i64 1 2 != 0) = false := by decide
  subst hok
  clear hN hl2 he2 hM hmp hnle
  clear h hK hl1 he1 hp hk6
  go_enter Try.func88, Try.ntmps88
  go_wp2_with (with_reducible refine alloc_row (o := ⟨some 2, _, _, _, _, _⟩) rfl _ rfl _ CZ.out ?_; intro w1 hr1 hb1 hz1; have HR1 := Lib.hid hr1; have HP1 := Lib.hid (HP.out.mono hb1); have HG1 := Lib.hid (show Gw p w w1 from Gw.of_below hb1); have HN1 := Lib.hid (show w.heap.size ≠ p by have := HP.out.lt; omega); clear hr1 hb1 hz1)
  refine (pnumR p 6 l e w1 HP1.out).mono ?_
  rw [HK.out, HL1.out, HE1.out]
  rintro x w2 ⟨rfl, hP2, hu2⟩
  have HP2 := Lib.hid hP2
  have HG2 := Lib.hid (HG1.out.trans (Gw.upd hu2))
  have HR2 := Lib.hid (HR1.out.upd hu2 HN1.out)
  clear hP2 hu2
  go_wp2_with (first
    | (with_reducible refine alloc_row (o := ⟨some 3, _, _, _, _, _⟩) rfl _ rfl _ CZ.out ?_; intro w3 hr3 hb3 hz3; have HR3 := Lib.hid hr3; have HB3 := Lib.hid hb3; have HRA := Lib.hid (HR2.out.below hb3 HR2.out.lt); have HN3 := Lib.hid (show w2.heap.size ≠ p by have := HP2.out.lt; omega); have HNA := Lib.hid (show w.heap.size ≠ w2.heap.size by have := HR2.out.lt; omega); clear hr3 hb3 hz3)
    | (refine store_row (o := ⟨none, _, _, _, _, _⟩) rfl _ _ _ rfl w2.heap.size [.int .i64 (K : Int), .int .i64 0, .string ⟨#[]⟩] (by go_simp) (by go_simp) 51 _ HR3.out CSZ.out rfl (by intro v hv; simp at hv; rcases hv with rfl | rfl | rfl <;> rfl) ?_; intro w4 hr4 hu4; have HR4 := Lib.hid hr4; have HRB := Lib.hid (HRA.out.upd hu4 HNA.out); have HB4 := Lib.hid (HB3.out.trans (hu4.below (Nat.le_refl _))); clear hr4 hu4; have f0 := HR4.out.c0; have f1 := HR4.out.c1; have f2 := HR4.out.c2)
    | (go_at_call 94; refine (cparts _ _).mono ?_; rw [HPT.out]; rintro e w' ⟨rfl, rfl⟩)
    | (go_at_call 95; refine (cmost _ _).mono ?_; rw [HM.out]; rintro e w' ⟨rfl, rfl⟩))
  refine (pnumR p M l1 0 w4 (HP2.out.mono HB4.out)).mono ?_
  rw [HN.out, HL2.out, HE2.out]
  rintro x w5 ⟨rfl, hP5, hu5⟩
  have HP5 := Lib.hid hP5
  have HR5 := Lib.hid (HR4.out.upd hu5 HN3.out)
  have HRB5 := Lib.hid (HRB.out.upd hu5 HN1.out)
  have HG5 := Lib.hid ((HG2.out.trans (Gw.of_below HB4.out)).trans (Gw.upd hu5))
  have HS5 := Lib.hid (show w.heap.size ≤ w2.heap.size from HG2.out.size)
  clear hP5 hu5 f0 f1 f2
  have f0 := HR5.out.c0
  have f1 := HR5.out.c1
  have f2 := HR5.out.c2
  have z1 := HR5.out.frozen 1
  go_wp2_with fail
  obtain ⟨w6, hw6⟩ : ∃ w6, w6 = w5.setCell ⟨w2.heap.size, 1, none⟩ (.int .i64 (n : Int)) := ⟨_, rfl⟩
  rw [← hw6]
  have hu6 : Upd w5 w6 w2.heap.size := by rw [hw6]; exact Upd.setCell _ _ _ _
  have HR6 := Lib.hid (show Row w6 w2.heap.size 51 [.int .i64 (K : Int), .int .i64 (n : Int), .string ⟨#[]⟩] by rw [hw6]; exact HR5.out.setV 1 _)
  have HP6 := Lib.hid (HP5.out.cv HR5.out hu6)
  have HRB6 := Lib.hid (HRB5.out.upd hu6 HNA.out)
  have HG6 := Lib.hid (HG5.out.tail HS5.out hu6)
  clear f0 f1 f2 z1 hw6 hu6
  refine (ccheck ⟨K, n, ⟨#[]⟩⟩ w6 HFIT.out).mono ?_
  rw [HER.out]
  rintro x w7 ⟨rfl, hb7⟩
  have HP7 := Lib.hid (HP6.out.mono hb7)
  have HR7 := Lib.hid (HR6.out.below hb7 HR6.out.lt)
  have HRB7 := Lib.hid (HRB6.out.below hb7 HRB6.out.lt)
  have HG7 := Lib.hid (HG6.out.trans (Gw.of_below hb7))
  clear hb7
  have f0 := HR7.out.c0
  have f1 := HR7.out.c1
  have f2 := HR7.out.c2
  go_wp2_with fail
  refine (perr p _ _ w7 HP7.out).mono ?_
  rintro x w8 ⟨rfl, rfl⟩
  go_wp2_with (refine store_row (o := ⟨none, _, _, _, _, _⟩) rfl _ _ _ rfl w.heap.size [.int .i64 (K : Int), .int .i64 (n : Int), .string ⟨#[]⟩] (by go_simp) (by go_simp) 51 _ HRB7.out CSZ.out rfl (by intro v hv; simp at hv; rcases hv with rfl | rfl | rfl <;> rfl) ?_; intro w8 hr8 hu8; have HR8 := Lib.hid hr8; have HP8 := Lib.hid (HP7.out.cv HRB7.out hu8); have HG8 := Lib.hid (HG7.out.tail (Nat.le_refl _) hu8); clear hr8 hu8)
  exact bodyPost_ret (results_cell_row rfl _ _ w.heap.size 51 _ _ _ (by go_simp) HR8.out Try.underlying51 rfl CSZ.out) rfl ⟨rfl, HP8.out, HG8.out⟩

set_option maxRecDepth 100000 in
set_option maxHeartbeats 1000000 in
theorem cread_text_bad (p : Nat) (l : List UInt8) (e : Int) (w : World) (h : RP w p l e) (K : Nat) (l1 : List UInt8) (hK : (numR 6 l e).1 = K) (hl1 : (numR 6 l e).2.1 = l1) (he1 : (numR 6 l e).2.2 = 0) (hp : partsV (K : Int) = 2) (t : List UInt8) (l2 : List UInt8) (e2 : Int) (hT : (textR 16 l1 0).1 = t) (hl2 : (textR 16 l1 0).2.1 = l2) (he2 : (textR 16 l1 0).2.2 = e2) (hbad : nameV (str t) = false) :
    Calls Try.prog 88 #[.pointer (some ⟨p, 0, none⟩)] w fun x w' => x = .returned (default : Cv).val ∧ RP w' p (failL l2 e2 3) (failE e2 3) ∧ Gw p w w' := by
  have HP := Lib.hid h
  have CZ := Lib.hid cv_zero
  have CSZ := Lib.hid cv_size
  have HK := Lib.hid hK
  have HL1 := Lib.hid hl1
  have HE1 := Lib.hid he1
  have HPT := Lib.hid hp
  have hk6 : (K : Int) ≤ 6 := by
    rw [← hK]
    by_cases he : e = 0
    · subst he; exact numR_le (by decide) (Decidable.em _)
    · rw [numR_err he]; exact (by decide : ((0 : Nat) : Int) ≤ 6)
  obtain ⟨s, hs⟩ : ∃ s, str t = s := ⟨_, rfl⟩
  have HT := Lib.hid hT
  have HL2 := Lib.hid hl2
  have HE2 := Lib.hid he2
  have HS := Lib.hid hs
  have htl : t.length ≤ 16 := by
    rw [← hT]
    by_cases h2 : (textR 16 l1 0).2.2 = 0
    · have := (text_back 16 l1 h2).2; omega
    · rw [textR_none h2]; simp
  have hsz : s.size ≤ 16 := by rw [← hs, str_size]; exact htl
  have HFIT := Lib.hid (show Cv.fit ⟨K, 0, s⟩ from cv_fit_of _ _ _ (by omega) (by omega) (by decide) (by decide) (by unfold maxLen; omega))
  have b1 : (bits .and .i64 2 1 != 0) = false := by decide
  have b2 : (bits .and .i64 2 2 != 0) = true := by decide
  rw [hs] at hbad
  have HER := Lib.hid (show Cv.err ⟨K, 0, s⟩ = 1 by rw [err_name (K : Int) s hp, hbad]; rfl)
  obtain ⟨FL, hFL⟩ : ∃ FL, failL l2 e2 3 = FL := ⟨_, rfl⟩
  obtain ⟨FE, hFE⟩ : ∃ FE, failE e2 3 = FE := ⟨_, rfl⟩
  have b3 : (FE != 0) = true := by rw [← hFE]; unfold failE; split <;> simp_all
  have HFL := Lib.hid hFL
  have HFE := Lib.hid hFE
  rw [hFL, hFE]
  clear hFL hFE hbad hs
  clear hT hl2 he2 htl
  clear h hK hl1 he1 hp hk6
  go_enter Try.func88, Try.ntmps88
  go_wp2_with (with_reducible refine alloc_row (o := ⟨some 2, _, _, _, _, _⟩) rfl _ rfl _ CZ.out ?_; intro w1 hr1 hb1 hz1; have HR1 := Lib.hid hr1; have HP1 := Lib.hid (HP.out.mono hb1); have HG1 := Lib.hid (show Gw p w w1 from Gw.of_below hb1); have HN1 := Lib.hid (show w.heap.size ≠ p by have := HP.out.lt; omega); clear hr1 hb1 hz1)
  refine (pnumR p 6 l e w1 HP1.out).mono ?_
  rw [HK.out, HL1.out, HE1.out]
  rintro x w2 ⟨rfl, hP2, hu2⟩
  have HP2 := Lib.hid hP2
  have HG2 := Lib.hid (HG1.out.trans (Gw.upd hu2))
  have HR2 := Lib.hid (HR1.out.upd hu2 HN1.out)
  clear hP2 hu2
  go_wp2_with (first
    | (with_reducible refine alloc_row (o := ⟨some 3, _, _, _, _, _⟩) rfl _ rfl _ CZ.out ?_; intro w3 hr3 hb3 hz3; have HR3 := Lib.hid hr3; have HB3 := Lib.hid hb3; have HRA := Lib.hid (HR2.out.below hb3 HR2.out.lt); have HN3 := Lib.hid (show w2.heap.size ≠ p by have := HP2.out.lt; omega); have HNA := Lib.hid (show w.heap.size ≠ w2.heap.size by have := HR2.out.lt; omega); clear hr3 hb3 hz3)
    | (refine store_row (o := ⟨none, _, _, _, _, _⟩) rfl _ _ _ rfl w2.heap.size [.int .i64 (K : Int), .int .i64 0, .string ⟨#[]⟩] (by go_simp) (by go_simp) 51 _ HR3.out CSZ.out rfl (by intro v hv; simp at hv; rcases hv with rfl | rfl | rfl <;> rfl) ?_; intro w4 hr4 hu4; have HR4 := Lib.hid hr4; have HRB := Lib.hid (HRA.out.upd hu4 HNA.out); have HB4 := Lib.hid (HB3.out.trans (hu4.below (Nat.le_refl _))); clear hr4 hu4; have f0 := HR4.out.c0; have f1 := HR4.out.c1; have f2 := HR4.out.c2)
    | (go_at_call 94; refine (cparts _ _).mono ?_; rw [HPT.out]; rintro e w' ⟨rfl, rfl⟩))
  refine (ptextR p 16 l1 0 w4 (HP2.out.mono HB4.out)).mono ?_
  rw [HT.out, HL2.out, HE2.out, HS.out]
  rintro x w5 ⟨rfl, hP5, hu5⟩
  have HP5 := Lib.hid hP5
  have HR5 := Lib.hid (HR4.out.upd hu5 HN3.out)
  have HRB5 := Lib.hid (HRB.out.upd hu5 HN1.out)
  have HG5 := Lib.hid ((HG2.out.trans (Gw.of_below HB4.out)).trans (Gw.upd hu5))
  have HS5 := Lib.hid (show w.heap.size ≤ w2.heap.size from HG2.out.size)
  clear hP5 hu5 f0 f1 f2
  have f0 := HR5.out.c0
  have f1 := HR5.out.c1
  have f2 := HR5.out.c2
  have z1 := HR5.out.frozen 2
  go_wp2_with fail
  obtain ⟨w6, hw6⟩ : ∃ w6, w6 = w5.setCell ⟨w2.heap.size, 2, none⟩ (.string s) := ⟨_, rfl⟩
  rw [← hw6]
  have hu6 : Upd w5 w6 w2.heap.size := by rw [hw6]; exact Upd.setCell _ _ _ _
  have HR6 := Lib.hid (show Row w6 w2.heap.size 51 [.int .i64 (K : Int), .int .i64 0, .string s] by rw [hw6]; exact HR5.out.setV 2 _)
  have HP6 := Lib.hid (HP5.out.cv HR5.out hu6)
  have HRB6 := Lib.hid (HRB5.out.upd hu6 HNA.out)
  have HG6 := Lib.hid (HG5.out.tail HS5.out hu6)
  clear f0 f1 f2 z1 hw6 hu6
  refine (ccheck ⟨K, 0, s⟩ w6 HFIT.out).mono ?_
  rw [HER.out]
  rintro x w7 ⟨rfl, hb7⟩
  have HP7 := Lib.hid (HP6.out.mono hb7)
  have HR7 := Lib.hid (HR6.out.below hb7 HR6.out.lt)
  have HRB7 := Lib.hid (HRB6.out.below hb7 HRB6.out.lt)
  have HG7 := Lib.hid (HG6.out.trans (Gw.of_below hb7))
  clear hb7
  have f0 := HR7.out.c0
  have f1 := HR7.out.c1
  have f2 := HR7.out.c2
  go_wp2_with fail
  refine (pfail p l2 e2 3 w7 HP7.out).mono ?_
  rw [HFL.out, HFE.out]
  rintro x w7' ⟨rfl, hP7', hu7⟩
  have HP7' := Lib.hid hP7'
  have HR7' := Lib.hid (HR7.out.upd hu7 HN3.out)
  have HRB7' := Lib.hid (HRB7.out.upd hu7 HN1.out)
  have HG7' := Lib.hid (HG7.out.trans (Gw.upd hu7))
  clear f0 f1 f2 hP7' hu7
  have f0 := HR7'.out.c0
  have f1 := HR7'.out.c1
  have f2 := HR7'.out.c2
  go_wp2_with fail
  refine (perr p _ _ w7' HP7'.out).mono ?_
  rintro x w8 ⟨rfl, rfl⟩
  go_wp2_with (refine store_row (o := ⟨none, _, _, _, _, _⟩) rfl _ _ _ rfl w.heap.size [.int .i64 0, .int .i64 0, .string ⟨#[]⟩] (by go_simp) (by go_simp) 51 _ HRB7'.out CSZ.out rfl (by intro v hv; simp at hv; rcases hv with rfl | rfl | rfl <;> rfl) ?_; intro w8 hr8 hu8; have HR8 := Lib.hid hr8; have HP8 := Lib.hid (HP7'.out.cv HRB7'.out hu8); have HG8 := Lib.hid (HG7'.out.tail (Nat.le_refl _) hu8); clear hr8 hu8)
  exact bodyPost_ret (results_cell_row rfl _ _ w.heap.size 51 _ _ _ (by go_simp) HR8.out Try.underlying51 rfl CSZ.out) rfl ⟨rfl, HP8.out, HG8.out⟩

set_option maxRecDepth 100000 in
set_option maxHeartbeats 1000000 in
theorem cread_text_ok (p : Nat) (l : List UInt8) (e : Int) (w : World) (h : RP w p l e) (K : Nat) (l1 : List UInt8) (hK : (numR 6 l e).1 = K) (hl1 : (numR 6 l e).2.1 = l1) (he1 : (numR 6 l e).2.2 = 0) (hp : partsV (K : Int) = 2) (t : List UInt8) (l2 : List UInt8) (e2 : Int) (hT : (textR 16 l1 0).1 = t) (hl2 : (textR 16 l1 0).2.1 = l2) (he2 : (textR 16 l1 0).2.2 = e2) (hok : nameV (str t) = true) (he0 : e2 = 0) :
    Calls Try.prog 88 #[.pointer (some ⟨p, 0, none⟩)] w fun x w' => x = .returned (⟨K, 0, str t⟩ : Cv).val ∧ RP w' p l2 0 ∧ Gw p w w' := by
  have HP := Lib.hid h
  have CZ := Lib.hid cv_zero
  have CSZ := Lib.hid cv_size
  have HK := Lib.hid hK
  have HL1 := Lib.hid hl1
  have HE1 := Lib.hid he1
  have HPT := Lib.hid hp
  have hk6 : (K : Int) ≤ 6 := by
    rw [← hK]
    by_cases he : e = 0
    · subst he; exact numR_le (by decide) (Decidable.em _)
    · rw [numR_err he]; exact (by decide : ((0 : Nat) : Int) ≤ 6)
  obtain ⟨s, hs⟩ : ∃ s, str t = s := ⟨_, rfl⟩
  have HT := Lib.hid hT
  have HL2 := Lib.hid hl2
  have HE2 := Lib.hid he2
  have HS := Lib.hid hs
  have htl : t.length ≤ 16 := by
    rw [← hT]
    by_cases h2 : (textR 16 l1 0).2.2 = 0
    · have := (text_back 16 l1 h2).2; omega
    · rw [textR_none h2]; simp
  have hsz : s.size ≤ 16 := by rw [← hs, str_size]; exact htl
  have HFIT := Lib.hid (show Cv.fit ⟨K, 0, s⟩ from cv_fit_of _ _ _ (by omega) (by omega) (by decide) (by decide) (by unfold maxLen; omega))
  have b1 : (bits .and .i64 2 1 != 0) = false := by decide
  have b2 : (bits .and .i64 2 2 != 0) = true := by decide
  rw [hs] at hok ⊢
  have HER := Lib.hid (show Cv.err ⟨K, 0, s⟩ = 0 by rw [err_name (K : Int) s hp, hok]; rfl)
  subst he0
  clear hok hs
  clear hT hl2 he2 htl
  clear h hK hl1 he1 hp hk6
  go_enter Try.func88, Try.ntmps88
  go_wp2_with (with_reducible refine alloc_row (o := ⟨some 2, _, _, _, _, _⟩) rfl _ rfl _ CZ.out ?_; intro w1 hr1 hb1 hz1; have HR1 := Lib.hid hr1; have HP1 := Lib.hid (HP.out.mono hb1); have HG1 := Lib.hid (show Gw p w w1 from Gw.of_below hb1); have HN1 := Lib.hid (show w.heap.size ≠ p by have := HP.out.lt; omega); clear hr1 hb1 hz1)
  refine (pnumR p 6 l e w1 HP1.out).mono ?_
  rw [HK.out, HL1.out, HE1.out]
  rintro x w2 ⟨rfl, hP2, hu2⟩
  have HP2 := Lib.hid hP2
  have HG2 := Lib.hid (HG1.out.trans (Gw.upd hu2))
  have HR2 := Lib.hid (HR1.out.upd hu2 HN1.out)
  clear hP2 hu2
  go_wp2_with (first
    | (with_reducible refine alloc_row (o := ⟨some 3, _, _, _, _, _⟩) rfl _ rfl _ CZ.out ?_; intro w3 hr3 hb3 hz3; have HR3 := Lib.hid hr3; have HB3 := Lib.hid hb3; have HRA := Lib.hid (HR2.out.below hb3 HR2.out.lt); have HN3 := Lib.hid (show w2.heap.size ≠ p by have := HP2.out.lt; omega); have HNA := Lib.hid (show w.heap.size ≠ w2.heap.size by have := HR2.out.lt; omega); clear hr3 hb3 hz3)
    | (refine store_row (o := ⟨none, _, _, _, _, _⟩) rfl _ _ _ rfl w2.heap.size [.int .i64 (K : Int), .int .i64 0, .string ⟨#[]⟩] (by go_simp) (by go_simp) 51 _ HR3.out CSZ.out rfl (by intro v hv; simp at hv; rcases hv with rfl | rfl | rfl <;> rfl) ?_; intro w4 hr4 hu4; have HR4 := Lib.hid hr4; have HRB := Lib.hid (HRA.out.upd hu4 HNA.out); have HB4 := Lib.hid (HB3.out.trans (hu4.below (Nat.le_refl _))); clear hr4 hu4; have f0 := HR4.out.c0; have f1 := HR4.out.c1; have f2 := HR4.out.c2)
    | (go_at_call 94; refine (cparts _ _).mono ?_; rw [HPT.out]; rintro e w' ⟨rfl, rfl⟩))
  refine (ptextR p 16 l1 0 w4 (HP2.out.mono HB4.out)).mono ?_
  rw [HT.out, HL2.out, HE2.out, HS.out]
  rintro x w5 ⟨rfl, hP5, hu5⟩
  have HP5 := Lib.hid hP5
  have HR5 := Lib.hid (HR4.out.upd hu5 HN3.out)
  have HRB5 := Lib.hid (HRB.out.upd hu5 HN1.out)
  have HG5 := Lib.hid ((HG2.out.trans (Gw.of_below HB4.out)).trans (Gw.upd hu5))
  have HS5 := Lib.hid (show w.heap.size ≤ w2.heap.size from HG2.out.size)
  clear hP5 hu5 f0 f1 f2
  have f0 := HR5.out.c0
  have f1 := HR5.out.c1
  have f2 := HR5.out.c2
  have z1 := HR5.out.frozen 2
  go_wp2_with fail
  obtain ⟨w6, hw6⟩ : ∃ w6, w6 = w5.setCell ⟨w2.heap.size, 2, none⟩ (.string s) := ⟨_, rfl⟩
  rw [← hw6]
  have hu6 : Upd w5 w6 w2.heap.size := by rw [hw6]; exact Upd.setCell _ _ _ _
  have HR6 := Lib.hid (show Row w6 w2.heap.size 51 [.int .i64 (K : Int), .int .i64 0, .string s] by rw [hw6]; exact HR5.out.setV 2 _)
  have HP6 := Lib.hid (HP5.out.cv HR5.out hu6)
  have HRB6 := Lib.hid (HRB5.out.upd hu6 HNA.out)
  have HG6 := Lib.hid (HG5.out.tail HS5.out hu6)
  clear f0 f1 f2 z1 hw6 hu6
  refine (ccheck ⟨K, 0, s⟩ w6 HFIT.out).mono ?_
  rw [HER.out]
  rintro x w7 ⟨rfl, hb7⟩
  have HP7 := Lib.hid (HP6.out.mono hb7)
  have HR7 := Lib.hid (HR6.out.below hb7 HR6.out.lt)
  have HRB7 := Lib.hid (HRB6.out.below hb7 HRB6.out.lt)
  have HG7 := Lib.hid (HG6.out.trans (Gw.of_below hb7))
  clear hb7
  have f0 := HR7.out.c0
  have f1 := HR7.out.c1
  have f2 := HR7.out.c2
  go_wp2_with fail
  refine (perr p _ _ w7 HP7.out).mono ?_
  rintro x w8 ⟨rfl, rfl⟩
  go_wp2_with (refine store_row (o := ⟨none, _, _, _, _, _⟩) rfl _ _ _ rfl w.heap.size [.int .i64 (K : Int), .int .i64 0, .string s] (by go_simp) (by go_simp) 51 _ HRB7.out CSZ.out rfl (by intro v hv; simp at hv; rcases hv with rfl | rfl | rfl <;> rfl) ?_; intro w8 hr8 hu8; have HR8 := Lib.hid hr8; have HP8 := Lib.hid (HP7.out.cv HRB7.out hu8); have HG8 := Lib.hid (HG7.out.tail (Nat.le_refl _) hu8); clear hr8 hu8)
  exact bodyPost_ret (results_cell_row rfl _ _ w.heap.size 51 _ _ _ (by go_simp) HR8.out Try.underlying51 rfl CSZ.out) rfl ⟨rfl, HP8.out, HG8.out⟩

theorem cread_any (p : Nat) (l : List UInt8) (e : Int) (w : World) (h : RP w p l e) :
    Calls Try.prog 88 #[.pointer (some ⟨p, 0, none⟩)] w fun x w' => x = .returned (readS l e).1.val ∧ RP w' p (readS l e).2.1 (readS l e).2.2 ∧ Gw p w w' := by
  rcases parts_ne ((numR 6 l e).1 : Int) with hp | hp | hp
  · have e0 : readS l e = (default, failL (numR 6 l e).2.1 (numR 6 l e).2.2 3, failE (numR 6 l e).2.2 3) := by
      unfold readS
      split
      · rename_i h1; unfold failL failE; rw [if_pos (.inl h1), if_pos (.inl h1)]
      · rename_i h1
        have h1' : (numR 6 l e).2.2 = 0 := by simpa using h1
        unfold readK failL failE
        rw [hp, h1', if_neg (by decide), if_neg (by decide), if_neg (by decide), if_neg (by decide)]
    rw [e0]
    exact cread_none p l e w h _ _ _ rfl rfl rfl hp
  · have h1 : (numR 6 l e).2.2 = 0 := by
      by_cases h1 : (numR 6 l e).2.2 = 0
      · exact h1
      · rw [numR_zero h1] at hp; exact absurd hp (by decide)
    have e0 : readS l e = readK ((numR 6 l e).1 : Int) (numR 6 l e).2.1 := by unfold readS; rw [if_neg (by simp [h1])]
    rw [e0]
    unfold readK
    rw [if_neg (by rw [hp]; decide), if_pos hp]
    by_cases h2 : (numR (mostV ((numR 6 l e).1 : Int)) (numR 6 l e).2.1 0).2.2 = 0
    · rw [if_neg (by simp [h2])]
      have := cread_num_ok p l e w h _ _ rfl rfl h1 hp _ _ _ rfl rfl rfl h2
      rw [h2] at this
      exact this
    · rw [if_pos h2]
      exact cread_num_bad p l e w h _ _ rfl rfl h1 hp _ _ _ rfl rfl rfl h2
  · have h1 : (numR 6 l e).2.2 = 0 := by
      by_cases h1 : (numR 6 l e).2.2 = 0
      · exact h1
      · rw [numR_zero h1] at hp; exact absurd hp (by decide)
    have e0 : readS l e = readK ((numR 6 l e).1 : Int) (numR 6 l e).2.1 := by unfold readS; rw [if_neg (by simp [h1])]
    rw [e0]
    unfold readK
    rw [if_pos hp]
    by_cases h2 : (textR 16 (numR 6 l e).2.1 0).2.2 = 0
    · rw [if_neg (by simp [h2])]
      rcases h3 : nameV (str (textR 16 (numR 6 l e).2.1 0).1) with _ | _
      · rw [if_neg (by decide)]
        have := cread_text_bad p l e w h _ _ rfl rfl h1 hp _ _ _ rfl rfl rfl h3
        unfold failL failE at this
        rw [h2, if_neg (by decide), if_neg (by decide)] at this
        exact this
      · rw [if_pos rfl]
        exact cread_text_ok p l e w h _ _ rfl rfl h1 hp _ _ _ rfl rfl rfl h3 h2
    · rw [if_pos h2]
      have := cread_text_bad p l e w h _ _ rfl rfl h1 hp _ _ _ rfl rfl rfl (by rw [textR_none h2]; rfl)
      unfold failL failE at this
      rw [if_pos (.inl h2), if_pos (.inl h2)] at this
      exact this

end Go.Proofs.Ytmacjpgeamlmhaa.W
