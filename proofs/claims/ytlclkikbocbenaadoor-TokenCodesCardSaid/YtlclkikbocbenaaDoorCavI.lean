/- CONTRACTS of layer 6 (caveat): reading a caveat (the reference's). -/
import Derived.Test.YtlclkikbocbenaaDoorCavG
set_option linter.unusedSimpArgs false
set_option linter.unusedVariables false
namespace Go.Proofs.YtlclkikbocbenaaDoor.W
open Go.ChangeShapes Go.WideShapes Go.ChangeAt Go.RowKit

theorem rmost_one (k : Int) (h : partsV k = 1) : rmostV k = mostV k := by
  rcases parts_any k with h1 | h1 | h1 | h1 | h1 | h1 | h1
  all_goals first | (obtain ⟨rfl, -, e⟩ := h1; rw [e]; decide) | (exfalso; omega)
theorem rmost_zero : rmostV 0 = 1099511627776 := by decide

theorem failL_three (l : List UInt8) : failL l 0 3 = [] := by unfold failL; rw [if_neg (by decide)]
theorem failE_three : failE 0 3 = 3 := by decide

set_option maxRecDepth 100000 in
set_option maxHeartbeats 1000000 in
theorem uread_err (p : Nat) (l : List UInt8) (e : Int) (w : World) (h : RR w p l e) (K : Nat) (l1 : List UInt8) (e1 : Int) (hK : (numR 6 l e).1 = K) (hl1 : (numR 6 l e).2.1 = l1) (he1 : (numR 6 l e).2.2 = e1) (hne : e1 ≠ 0) :
    Calls Tryd.prog 78 #[.pointer (some ⟨p, 0, none⟩)] w fun x w' => x = .returned (default : Cv).val ∧ RR w' p l1 e1 ∧ Gw p w w' := by
  have HP := Lib.hid h
  have CZ := Lib.hid cv_zero
  have CSZ := Lib.hid cv_size
  have HK := Lib.hid hK
  have HL1 := Lib.hid hl1
  have HE1 := Lib.hid he1
  have h0 : K = 0 := by rw [← hK]; exact numR_zero (by rw [he1]; exact hne)
  have HNM := Lib.hid (show namedV 0 = false by decide)
  have HMM := Lib.hid (show rmostV 0 = 1099511627776 by decide)
  have HNR := Lib.hid (numR_err (most := 1099511627776) (l := l1) hne)
  have b3 : (e1 == 0) = false := by simpa using hne
  have b4 : (e1 != 0) = true := by simpa using hne
  subst h0
  clear h hK hl1 he1 hne
  go_enter Tryd.func78, Tryd.ntmps78
  go_wp2_with (with_reducible refine alloc_row (o := ⟨some 2, _, _, _, _, _⟩) rfl _ rfl _ CZ.out ?_; intro w1 hr1 hb1 hz1; have HR1 := Lib.hid hr1; have HP1 := Lib.hid (HP.out.mono hb1); have HG1 := Lib.hid (show Gw p w w1 from Gw.of_below hb1); have HN1 := Lib.hid (show w.heap.size ≠ p by have := HP.out.lt; omega); clear hr1 hb1 hz1)
  refine (rnumR p 6 l e w1 HP1.out).mono ?_
  rw [HK.out, HL1.out, HE1.out]
  rintro x w2 ⟨rfl, hP2, hu2⟩
  have HP2 := Lib.hid hP2
  have HG2 := Lib.hid (HG1.out.trans (Gw.upd hu2))
  have HR2 := Lib.hid (HR1.out.upd hu2 HN1.out)
  clear hP2 hu2
  go_wp2_with (first
    | (with_reducible refine alloc_row (o := ⟨some 3, _, _, _, _, _⟩) rfl _ rfl _ CZ.out ?_; intro w3 hr3 hb3 hz3; have HR3 := Lib.hid hr3; have HB3 := Lib.hid hb3; have HRA := Lib.hid (HR2.out.below hb3 HR2.out.lt); have HN3 := Lib.hid (show w2.heap.size ≠ p by have := HP2.out.lt; omega); have HNA := Lib.hid (show w.heap.size ≠ w2.heap.size by have := HR2.out.lt; omega); clear hr3 hb3 hz3)
    | (refine store_row (o := ⟨none, _, _, _, _, _⟩) rfl _ _ _ rfl w2.heap.size [.int .i64 0, .int .i64 0, .string ⟨#[]⟩] (by go_simp) (by go_simp) 49 _ HR3.out CSZ.out rfl (by intro v hv; simp at hv; rcases hv with rfl | rfl | rfl <;> rfl) ?_; intro w4 hr4 hu4; have HR4 := Lib.hid hr4; have HRB := Lib.hid (HRA.out.upd hu4 HNA.out); have HB4 := Lib.hid (HB3.out.trans (hu4.below (Nat.le_refl _))); clear hr4 hu4; have f0 := HR4.out.c0; have f1 := HR4.out.c1; have f2 := HR4.out.c2))
  refine (rerr p _ _ w4 (HP2.out.mono HB4.out)).mono ?_
  rintro x wq ⟨rfl, rfl⟩
  go_wp2_with fail
  refine (unamed _ _).mono ?_
  rw [HNM.out]
  rintro x wq ⟨rfl, rfl⟩
  go_wp2_with fail
  refine (umost _ _).mono ?_
  rw [HMM.out]
  rintro x wq ⟨rfl, rfl⟩
  go_wp2_with fail
  refine (rnumR p 1099511627776 l1 e1 w4 (HP2.out.mono HB4.out)).mono ?_
  rw [HNR.out]
  rintro x w5 ⟨rfl, hP5, hu5⟩
  have HP5 := Lib.hid hP5
  have HR5 := Lib.hid (HR4.out.upd hu5 HN3.out)
  have HRB5 := Lib.hid (HRB.out.upd hu5 HN1.out)
  have HG5 := Lib.hid ((HG2.out.trans (Gw.of_below HB4.out)).trans (Gw.upd hu5))
  have HS5 := Lib.hid (show w.heap.size ≤ w2.heap.size from HG2.out.size)
  clear hP5 hu5 f0 f1 f2
  have f0 := HR5.out.c0
  have f1 := HR5.out.c1
  have f2 := HR5.out.c2
  have z1 := HR5.out.frozen 1
  go_wp2_with fail
  obtain ⟨w6, hw6⟩ : ∃ w6, w6 = w5.setCell ⟨w2.heap.size, 1, none⟩ (.int .i64 0) := ⟨_, rfl⟩
  rw [← hw6]
  have hu6 : Upd w5 w6 w2.heap.size := by rw [hw6]; exact Upd.setCell _ _ _ _
  have HR6 := Lib.hid (show Row w6 w2.heap.size 49 [.int .i64 0, .int .i64 0, .string ⟨#[]⟩] by rw [hw6]; exact HR5.out.setV 1 _)
  have HP6 := Lib.hid (HP5.out.cv HR5.out hu6)
  have HRB6 := Lib.hid (HRB5.out.upd hu6 HNA.out)
  have HG6 := Lib.hid (HG5.out.tail HS5.out hu6)
  clear f0 f1 f2 z1 hw6 hu6
  have f0 := HR6.out.c0
  have f1 := HR6.out.c1
  have f2 := HR6.out.c2
  refine (rerr p _ _ w6 HP6.out).mono ?_
  rintro x wq ⟨rfl, rfl⟩
  go_wp2_with fail
  refine (rerr p _ _ w6 HP6.out).mono ?_
  rintro x w8 ⟨rfl, rfl⟩
  go_wp2_with (refine store_row (o := ⟨none, _, _, _, _, _⟩) rfl _ _ _ rfl w.heap.size [.int .i64 0, .int .i64 0, .string ⟨#[]⟩] (by go_simp) (by go_simp) 49 _ HRB6.out CSZ.out rfl (by intro v hv; simp at hv; rcases hv with rfl | rfl | rfl <;> rfl) ?_; intro w8 hr8 hu8; have HR8 := Lib.hid hr8; have HP8 := Lib.hid (HP6.out.cv HRB6.out hu8); have HG8 := Lib.hid (HG6.out.tail (Nat.le_refl _) hu8); clear hr8 hu8)
  exact bodyPost_ret (results_cell_row rfl _ _ w.heap.size 49 _ _ _ (by go_simp) HR8.out Tryd.underlying49 rfl CSZ.out) rfl ⟨rfl, HP8.out, HG8.out⟩

set_option maxRecDepth 100000 in
set_option maxHeartbeats 1000000 in
theorem uread_zero (p : Nat) (l : List UInt8) (e : Int) (w : World) (h : RR w p l e) (K : Nat) (l1 : List UInt8) (e1 : Int) (hK : (numR 6 l e).1 = K) (hl1 : (numR 6 l e).2.1 = l1) (he1 : (numR 6 l e).2.2 = e1) (he0 : e1 = 0) (h0 : K = 0) :
    Calls Tryd.prog 78 #[.pointer (some ⟨p, 0, none⟩)] w fun x w' => x = .returned (default : Cv).val ∧ RR w' p [] 3 ∧ Gw p w w' := by
  have HP := Lib.hid h
  have CZ := Lib.hid cv_zero
  have CSZ := Lib.hid cv_size
  have HK := Lib.hid hK
  have HL1 := Lib.hid hl1
  have HE1 := Lib.hid he1
  have HNM := Lib.hid (show namedV 0 = false by decide)
  have HMM := Lib.hid (show rmostV 0 = 1099511627776 by decide)
  have HNR := Lib.hid (numR_err (most := 1099511627776) (l := ([] : List UInt8)) (show (3 : Int) ≠ 0 by decide))
  subst h0 he0
  clear h hK hl1 he1
  go_enter Tryd.func78, Tryd.ntmps78
  go_wp2_with (with_reducible refine alloc_row (o := ⟨some 2, _, _, _, _, _⟩) rfl _ rfl _ CZ.out ?_; intro w1 hr1 hb1 hz1; have HR1 := Lib.hid hr1; have HP1 := Lib.hid (HP.out.mono hb1); have HG1 := Lib.hid (show Gw p w w1 from Gw.of_below hb1); have HN1 := Lib.hid (show w.heap.size ≠ p by have := HP.out.lt; omega); clear hr1 hb1 hz1)
  refine (rnumR p 6 l e w1 HP1.out).mono ?_
  rw [HK.out, HL1.out, HE1.out]
  rintro x w2 ⟨rfl, hP2, hu2⟩
  have HP2 := Lib.hid hP2
  have HG2 := Lib.hid (HG1.out.trans (Gw.upd hu2))
  have HR2 := Lib.hid (HR1.out.upd hu2 HN1.out)
  clear hP2 hu2
  go_wp2_with (first
    | (with_reducible refine alloc_row (o := ⟨some 3, _, _, _, _, _⟩) rfl _ rfl _ CZ.out ?_; intro w3 hr3 hb3 hz3; have HR3 := Lib.hid hr3; have HB3 := Lib.hid hb3; have HRA := Lib.hid (HR2.out.below hb3 HR2.out.lt); have HN3 := Lib.hid (show w2.heap.size ≠ p by have := HP2.out.lt; omega); have HNA := Lib.hid (show w.heap.size ≠ w2.heap.size by have := HR2.out.lt; omega); clear hr3 hb3 hz3)
    | (refine store_row (o := ⟨none, _, _, _, _, _⟩) rfl _ _ _ rfl w2.heap.size [.int .i64 0, .int .i64 0, .string ⟨#[]⟩] (by go_simp) (by go_simp) 49 _ HR3.out CSZ.out rfl (by intro v hv; simp at hv; rcases hv with rfl | rfl | rfl <;> rfl) ?_; intro w4 hr4 hu4; have HR4 := Lib.hid hr4; have HRB := Lib.hid (HRA.out.upd hu4 HNA.out); have HB4 := Lib.hid (HB3.out.trans (hu4.below (Nat.le_refl _))); clear hr4 hu4; have f0 := HR4.out.c0; have f1 := HR4.out.c1; have f2 := HR4.out.c2))
  refine (rerr p _ _ w4 (HP2.out.mono HB4.out)).mono ?_
  rintro x wq ⟨rfl, rfl⟩
  go_wp2_with fail
  refine (rfail p l1 0 3 w4 (HP2.out.mono HB4.out)).mono ?_
  rintro x w4' ⟨rfl, hP4, hu4⟩
  rw [failL_three, failE_three] at hP4
  have HP4 := Lib.hid hP4
  have HR4' := Lib.hid (HR4.out.upd hu4 HN3.out)
  have HRB' := Lib.hid (HRB.out.upd hu4 HN1.out)
  have HG4 := Lib.hid ((HG2.out.trans (Gw.of_below HB4.out)).trans (Gw.upd hu4))
  clear f0 f1 f2 hP4 hu4
  have f0 := HR4'.out.c0
  have f1 := HR4'.out.c1
  have f2 := HR4'.out.c2
  go_wp2_with fail
  refine (unamed _ _).mono ?_
  rw [HNM.out]
  rintro x wq ⟨rfl, rfl⟩
  go_wp2_with fail
  refine (umost _ _).mono ?_
  rw [HMM.out]
  rintro x wq ⟨rfl, rfl⟩
  go_wp2_with fail
  refine (rnumR p 1099511627776 [] 3 w4' HP4.out).mono ?_
  rw [HNR.out]
  rintro x w5 ⟨rfl, hP5, hu5⟩
  have HP5 := Lib.hid hP5
  have HR5 := Lib.hid (HR4'.out.upd hu5 HN3.out)
  have HRB5 := Lib.hid (HRB'.out.upd hu5 HN1.out)
  have HG5 := Lib.hid (HG4.out.trans (Gw.upd hu5))
  have HS5 := Lib.hid (show w.heap.size ≤ w2.heap.size from HG2.out.size)
  clear hP5 hu5 f0 f1 f2
  have f0 := HR5.out.c0
  have f1 := HR5.out.c1
  have f2 := HR5.out.c2
  have z1 := HR5.out.frozen 1
  go_wp2_with fail
  obtain ⟨w6, hw6⟩ : ∃ w6, w6 = w5.setCell ⟨w2.heap.size, 1, none⟩ (.int .i64 0) := ⟨_, rfl⟩
  rw [← hw6]
  have hu6 : Upd w5 w6 w2.heap.size := by rw [hw6]; exact Upd.setCell _ _ _ _
  have HR6 := Lib.hid (show Row w6 w2.heap.size 49 [.int .i64 0, .int .i64 0, .string ⟨#[]⟩] by rw [hw6]; exact HR5.out.setV 1 _)
  have HP6 := Lib.hid (HP5.out.cv HR5.out hu6)
  have HRB6 := Lib.hid (HRB5.out.upd hu6 HNA.out)
  have HG6 := Lib.hid (HG5.out.tail HS5.out hu6)
  clear f0 f1 f2 z1 hw6 hu6
  have f0 := HR6.out.c0
  have f1 := HR6.out.c1
  have f2 := HR6.out.c2
  refine (rerr p _ _ w6 HP6.out).mono ?_
  rintro x wq ⟨rfl, rfl⟩
  go_wp2_with fail
  refine (rerr p _ _ w6 HP6.out).mono ?_
  rintro x w8 ⟨rfl, rfl⟩
  go_wp2_with (refine store_row (o := ⟨none, _, _, _, _, _⟩) rfl _ _ _ rfl w.heap.size [.int .i64 0, .int .i64 0, .string ⟨#[]⟩] (by go_simp) (by go_simp) 49 _ HRB6.out CSZ.out rfl (by intro v hv; simp at hv; rcases hv with rfl | rfl | rfl <;> rfl) ?_; intro w8 hr8 hu8; have HR8 := Lib.hid hr8; have HP8 := Lib.hid (HP6.out.cv HRB6.out hu8); have HG8 := Lib.hid (HG6.out.tail (Nat.le_refl _) hu8); clear hr8 hu8)
  exact bodyPost_ret (results_cell_row rfl _ _ w.heap.size 49 _ _ _ (by go_simp) HR8.out Tryd.underlying49 rfl CSZ.out) rfl ⟨rfl, HP8.out, HG8.out⟩

set_option maxRecDepth 100000 in
set_option maxHeartbeats 1000000 in
theorem uread_num_bad (p : Nat) (l : List UInt8) (e : Int) (w : World) (h : RR w p l e) (K : Nat) (l1 : List UInt8) (hK : (numR 6 l e).1 = K) (hl1 : (numR 6 l e).2.1 = l1) (he1 : (numR 6 l e).2.2 = 0) (hp : partsV (K : Int) = 1) (n : Nat) (l2 : List UInt8) (e2 : Int) (hN : (numR (mostV (K : Int)) l1 0).1 = n) (hl2 : (numR (mostV (K : Int)) l1 0).2.1 = l2) (he2 : (numR (mostV (K : Int)) l1 0).2.2 = e2) (hbad : e2 ≠ 0) :
    Calls Tryd.prog 78 #[.pointer (some ⟨p, 0, none⟩)] w fun x w' => x = .returned (default : Cv).val ∧ RR w' p l2 e2 ∧ Gw p w w' := by
  have HP := Lib.hid h
  have CZ := Lib.hid cv_zero
  have CSZ := Lib.hid cv_size
  have HK := Lib.hid hK
  have HL1 := Lib.hid hl1
  have HE1 := Lib.hid he1
  have HPT := Lib.hid hp
  have hk6 : (K : Int) ≤ 6 := by
    rw [← hK]
    by_cases he : e = 0
    · subst he; exact numR_le (by decide) (Decidable.em _)
    · rw [numR_err he]; exact (by decide : ((0 : Nat) : Int) ≤ 6)
  have hk0 : K ≠ 0 := by intro h0; rw [h0] at hp; exact absurd hp (by decide)
  have bk : ((K : Int) == 0) = false := by simpa using hk0
  have HNM := Lib.hid (show namedV (K : Int) = false by unfold namedV; rw [hp]; decide)
  have hmp := most_pos (K : Int)
  obtain ⟨M, hM⟩ : ∃ M, mostV (K : Int) = M := ⟨_, rfl⟩
  rw [hM] at hmp hN hl2 he2
  have HM := Lib.hid (show rmostV (K : Int) = M by rw [rmost_one _ hp, hM])
  have HN := Lib.hid hN
  have HL2 := Lib.hid hl2
  have HE2 := Lib.hid he2
  have hnle : (n : Int) ≤ M := by rw [← hN]; exact numR_le hmp.1 (Decidable.em _)
  have HFIT := Lib.hid (show Cv.fit ⟨K, n, ⟨#[]⟩⟩ from cv_fit_of _ _ _ (by omega) (by omega) (by omega) (by omega) (by decide))
  have HER := Lib.hid (err_num (K : Int) n hp (by omega) (by rw [hM]; exact hnle))
  have b3 : (e2 == 0) = false := by simpa using hbad
  have b4 : (e2 != 0) = true := by simpa using hbad
  clear hbad hk0
  clear hN hl2 he2 hM hmp hnle
  clear h hK hl1 he1 hp hk6
  go_enter Tryd.func78, Tryd.ntmps78
  go_wp2_with (with_reducible refine alloc_row (o := ⟨some 2, _, _, _, _, _⟩) rfl _ rfl _ CZ.out ?_; intro w1 hr1 hb1 hz1; have HR1 := Lib.hid hr1; have HP1 := Lib.hid (HP.out.mono hb1); have HG1 := Lib.hid (show Gw p w w1 from Gw.of_below hb1); have HN1 := Lib.hid (show w.heap.size ≠ p by have := HP.out.lt; omega); clear hr1 hb1 hz1)
  refine (rnumR p 6 l e w1 HP1.out).mono ?_
  rw [HK.out, HL1.out, HE1.out]
  rintro x w2 ⟨rfl, hP2, hu2⟩
  have HP2 := Lib.hid hP2
  have HG2 := Lib.hid (HG1.out.trans (Gw.upd hu2))
  have HR2 := Lib.hid (HR1.out.upd hu2 HN1.out)
  clear hP2 hu2
  go_wp2_with (first
    | (with_reducible refine alloc_row (o := ⟨some 3, _, _, _, _, _⟩) rfl _ rfl _ CZ.out ?_; intro w3 hr3 hb3 hz3; have HR3 := Lib.hid hr3; have HB3 := Lib.hid hb3; have HRA := Lib.hid (HR2.out.below hb3 HR2.out.lt); have HN3 := Lib.hid (show w2.heap.size ≠ p by have := HP2.out.lt; omega); have HNA := Lib.hid (show w.heap.size ≠ w2.heap.size by have := HR2.out.lt; omega); clear hr3 hb3 hz3)
    | (refine store_row (o := ⟨none, _, _, _, _, _⟩) rfl _ _ _ rfl w2.heap.size [.int .i64 (K : Int), .int .i64 0, .string ⟨#[]⟩] (by go_simp) (by go_simp) 49 _ HR3.out CSZ.out rfl (by intro v hv; simp at hv; rcases hv with rfl | rfl | rfl <;> rfl) ?_; intro w4 hr4 hu4; have HR4 := Lib.hid hr4; have HRB := Lib.hid (HRA.out.upd hu4 HNA.out); have HB4 := Lib.hid (HB3.out.trans (hu4.below (Nat.le_refl _))); clear hr4 hu4; have f0 := HR4.out.c0; have f1 := HR4.out.c1; have f2 := HR4.out.c2))
  refine (rerr p _ _ w4 (HP2.out.mono HB4.out)).mono ?_
  rintro x wq ⟨rfl, rfl⟩
  go_wp2_with fail
  refine (unamed _ _).mono ?_
  rw [HNM.out]
  rintro x wq ⟨rfl, rfl⟩
  go_wp2_with fail
  refine (umost _ _).mono ?_
  rw [HM.out]
  rintro x wq ⟨rfl, rfl⟩
  go_wp2_with fail
  refine (rnumR p M l1 0 w4 (HP2.out.mono HB4.out)).mono ?_
  rw [HN.out, HL2.out, HE2.out]
  rintro x w5 ⟨rfl, hP5, hu5⟩
  have HP5 := Lib.hid hP5
  have HR5 := Lib.hid (HR4.out.upd hu5 HN3.out)
  have HRB5 := Lib.hid (HRB.out.upd hu5 HN1.out)
  have HG5 := Lib.hid ((HG2.out.trans (Gw.of_below HB4.out)).trans (Gw.upd hu5))
  have HS5 := Lib.hid (show w.heap.size ≤ w2.heap.size from HG2.out.size)
  clear hP5 hu5 f0 f1 f2
  have f0 := HR5.out.c0
  have f1 := HR5.out.c1
  have f2 := HR5.out.c2
  have z1 := HR5.out.frozen 1
  go_wp2_with fail
  obtain ⟨w6, hw6⟩ : ∃ w6, w6 = w5.setCell ⟨w2.heap.size, 1, none⟩ (.int .i64 (n : Int)) := ⟨_, rfl⟩
  rw [← hw6]
  have hu6 : Upd w5 w6 w2.heap.size := by rw [hw6]; exact Upd.setCell _ _ _ _
  have HR6 := Lib.hid (show Row w6 w2.heap.size 49 [.int .i64 (K : Int), .int .i64 (n : Int), .string ⟨#[]⟩] by rw [hw6]; exact HR5.out.setV 1 _)
  have HP6 := Lib.hid (HP5.out.cv HR5.out hu6)
  have HRB6 := Lib.hid (HRB5.out.upd hu6 HNA.out)
  have HG6 := Lib.hid (HG5.out.tail HS5.out hu6)
  clear f0 f1 f2 z1 hw6 hu6
  have f0 := HR6.out.c0
  have f1 := HR6.out.c1
  have f2 := HR6.out.c2
  refine (rerr p _ _ w6 HP6.out).mono ?_
  rintro x wq ⟨rfl, rfl⟩
  go_wp2_with fail
  refine (rerr p _ _ w6 HP6.out).mono ?_
  rintro x w8 ⟨rfl, rfl⟩
  go_wp2_with (refine store_row (o := ⟨none, _, _, _, _, _⟩) rfl _ _ _ rfl w.heap.size [.int .i64 0, .int .i64 0, .string ⟨#[]⟩] (by go_simp) (by go_simp) 49 _ HRB6.out CSZ.out rfl (by intro v hv; simp at hv; rcases hv with rfl | rfl | rfl <;> rfl) ?_; intro w8 hr8 hu8; have HR8 := Lib.hid hr8; have HP8 := Lib.hid (HP6.out.cv HRB6.out hu8); have HG8 := Lib.hid (HG6.out.tail (Nat.le_refl _) hu8); clear hr8 hu8)
  exact bodyPost_ret (results_cell_row rfl _ _ w.heap.size 49 _ _ _ (by go_simp) HR8.out Tryd.underlying49 rfl CSZ.out) rfl ⟨rfl, HP8.out, HG8.out⟩

set_option maxRecDepth 100000 in
set_option maxHeartbeats 1000000 in
theorem uread_num_ok (p : Nat) (l : List UInt8) (e : Int) (w : World) (h : RR w p l e) (K : Nat) (l1 : List UInt8) (hK : (numR 6 l e).1 = K) (hl1 : (numR 6 l e).2.1 = l1) (he1 : (numR 6 l e).2.2 = 0) (hp : partsV (K : Int) = 1) (n : Nat) (l2 : List UInt8) (e2 : Int) (hN : (numR (mostV (K : Int)) l1 0).1 = n) (hl2 : (numR (mostV (K : Int)) l1 0).2.1 = l2) (he2 : (numR (mostV (K : Int)) l1 0).2.2 = e2) (hok : e2 = 0) :
    Calls Tryd.prog 78 #[.pointer (some ⟨p, 0, none⟩)] w fun x w' => x = .returned (⟨K, n, ⟨#[]⟩⟩ : Cv).val ∧ RR w' p l2 e2 ∧ Gw p w w' := by
  have HP := Lib.hid h
  have CZ := Lib.hid cv_zero
  have CSZ := Lib.hid cv_size
  have HK := Lib.hid hK
  have HL1 := Lib.hid hl1
  have HE1 := Lib.hid he1
  have HPT := Lib.hid hp
  have hk6 : (K : Int) ≤ 6 := by
    rw [← hK]
    by_cases he : e = 0
    · subst he; exact numR_le (by decide) (Decidable.em _)
    · rw [numR_err he]; exact (by decide : ((0 : Nat) : Int) ≤ 6)
  have hk0 : K ≠ 0 := by intro h0; rw [h0] at hp; exact absurd hp (by decide)
  have bk : ((K : Int) == 0) = false := by simpa using hk0
  have HNM := Lib.hid (show namedV (K : Int) = false by unfold namedV; rw [hp]; decide)
  have hmp := most_pos (K : Int)
  obtain ⟨M, hM⟩ : ∃ M, mostV (K : Int) = M := ⟨_, rfl⟩
  rw [hM] at hmp hN hl2 he2
  have HM := Lib.hid (show rmostV (K : Int) = M by rw [rmost_one _ hp, hM])
  have HN := Lib.hid hN
  have HL2 := Lib.hid hl2
  have HE2 := Lib.hid he2
  have hnle : (n : Int) ≤ M := by rw [← hN]; exact numR_le hmp.1 (Decidable.em _)
  have HFIT := Lib.hid (show Cv.fit ⟨K, n, ⟨#[]⟩⟩ from cv_fit_of _ _ _ (by omega) (by omega) (by omega) (by omega) (by decide))
  have HER := Lib.hid (err_num (K : Int) n hp (by omega) (by rw [hM]; exact hnle))
  subst hok
  clear hk0
  clear hN hl2 he2 hM hmp hnle
  clear h hK hl1 he1 hp hk6
  go_enter Tryd.func78, Tryd.ntmps78
  go_wp2_with (with_reducible refine alloc_row (o := ⟨some 2, _, _, _, _, _⟩) rfl _ rfl _ CZ.out ?_; intro w1 hr1 hb1 hz1; have HR1 := Lib.hid hr1; have HP1 := Lib.hid (HP.out.mono hb1); have HG1 := Lib.hid (show Gw p w w1 from Gw.of_below hb1); have HN1 := Lib.hid (show w.heap.size ≠ p by have := HP.out.lt; omega); clear hr1 hb1 hz1)
  refine (rnumR p 6 l e w1 HP1.out).mono ?_
  rw [HK.out, HL1.out, HE1.out]
  rintro x w2 ⟨rfl, hP2, hu2⟩
  have HP2 := Lib.hid hP2
  have HG2 := Lib.hid (HG1.out.trans (Gw.upd hu2))
  have HR2 := Lib.hid (HR1.out.upd hu2 HN1.out)
  clear hP2 hu2
  go_wp2_with (first
    | (with_reducible refine alloc_row (o := ⟨some 3, _, _, _, _, _⟩) rfl _ rfl _ CZ.out ?_; intro w3 hr3 hb3 hz3; have HR3 := Lib.hid hr3; have HB3 := Lib.hid hb3; have HRA := Lib.hid (HR2.out.below hb3 HR2.out.lt); have HN3 := Lib.hid (show w2.heap.size ≠ p by have := HP2.out.lt; omega); have HNA := Lib.hid (show w.heap.size ≠ w2.heap.size by have := HR2.out.lt; omega); clear hr3 hb3 hz3)
    | (refine store_row (o := ⟨none, _, _, _, _, _⟩) rfl _ _ _ rfl w2.heap.size [.int .i64 (K : Int), .int .i64 0, .string ⟨#[]⟩] (by go_simp) (by go_simp) 49 _ HR3.out CSZ.out rfl (by intro v hv; simp at hv; rcases hv with rfl | rfl | rfl <;> rfl) ?_; intro w4 hr4 hu4; have HR4 := Lib.hid hr4; have HRB := Lib.hid (HRA.out.upd hu4 HNA.out); have HB4 := Lib.hid (HB3.out.trans (hu4.below (Nat.le_refl _))); clear hr4 hu4; have f0 := HR4.out.c0; have f1 := HR4.out.c1; have f2 := HR4.out.c2))
  refine (rerr p _ _ w4 (HP2.out.mono HB4.out)).mono ?_
  rintro x wq ⟨rfl, rfl⟩
  go_wp2_with fail
  refine (unamed _ _).mono ?_
  rw [HNM.out]
  rintro x wq ⟨rfl, rfl⟩
  go_wp2_with fail
  refine (umost _ _).mono ?_
  rw [HM.out]
  rintro x wq ⟨rfl, rfl⟩
  go_wp2_with fail
  refine (rnumR p M l1 0 w4 (HP2.out.mono HB4.out)).mono ?_
  rw [HN.out, HL2.out, HE2.out]
  rintro x w5 ⟨rfl, hP5, hu5⟩
  have HP5 := Lib.hid hP5
  have HR5 := Lib.hid (HR4.out.upd hu5 HN3.out)
  have HRB5 := Lib.hid (HRB.out.upd hu5 HN1.out)
  have HG5 := Lib.hid ((HG2.out.trans (Gw.of_below HB4.out)).trans (Gw.upd hu5))
  have HS5 := Lib.hid (show w.heap.size ≤ w2.heap.size from HG2.out.size)
  clear hP5 hu5 f0 f1 f2
  have f0 := HR5.out.c0
  have f1 := HR5.out.c1
  have f2 := HR5.out.c2
  have z1 := HR5.out.frozen 1
  go_wp2_with fail
  obtain ⟨w6, hw6⟩ : ∃ w6, w6 = w5.setCell ⟨w2.heap.size, 1, none⟩ (.int .i64 (n : Int)) := ⟨_, rfl⟩
  rw [← hw6]
  have hu6 : Upd w5 w6 w2.heap.size := by rw [hw6]; exact Upd.setCell _ _ _ _
  have HR6 := Lib.hid (show Row w6 w2.heap.size 49 [.int .i64 (K : Int), .int .i64 (n : Int), .string ⟨#[]⟩] by rw [hw6]; exact HR5.out.setV 1 _)
  have HP6 := Lib.hid (HP5.out.cv HR5.out hu6)
  have HRB6 := Lib.hid (HRB5.out.upd hu6 HNA.out)
  have HG6 := Lib.hid (HG5.out.tail HS5.out hu6)
  clear f0 f1 f2 z1 hw6 hu6
  have f0 := HR6.out.c0
  have f1 := HR6.out.c1
  have f2 := HR6.out.c2
  refine (rerr p _ _ w6 HP6.out).mono ?_
  rintro x wq ⟨rfl, rfl⟩
  go_wp2_with fail
  refine (ucheck ⟨K, n, ⟨#[]⟩⟩ w6 HFIT.out).mono ?_
  rw [HER.out]
  rintro x w7 ⟨rfl, hb7⟩
  have HP7 := Lib.hid (HP6.out.mono hb7)
  have HR7 := Lib.hid (HR6.out.below hb7 HR6.out.lt)
  have HRB7 := Lib.hid (HRB6.out.below hb7 HRB6.out.lt)
  have HG7 := Lib.hid (HG6.out.trans (Gw.of_below hb7))
  clear hb7
  have f0 := HR7.out.c0
  have f1 := HR7.out.c1
  have f2 := HR7.out.c2
  go_wp2_with fail
  refine (rerr p _ _ w7 HP7.out).mono ?_
  rintro x w8 ⟨rfl, rfl⟩
  go_wp2_with (refine store_row (o := ⟨none, _, _, _, _, _⟩) rfl _ _ _ rfl w.heap.size [.int .i64 (K : Int), .int .i64 (n : Int), .string ⟨#[]⟩] (by go_simp) (by go_simp) 49 _ HRB7.out CSZ.out rfl (by intro v hv; simp at hv; rcases hv with rfl | rfl | rfl <;> rfl) ?_; intro w8 hr8 hu8; have HR8 := Lib.hid hr8; have HP8 := Lib.hid (HP7.out.cv HRB7.out hu8); have HG8 := Lib.hid (HG7.out.tail (Nat.le_refl _) hu8); clear hr8 hu8)
  exact bodyPost_ret (results_cell_row rfl _ _ w.heap.size 49 _ _ _ (by go_simp) HR8.out Tryd.underlying49 rfl CSZ.out) rfl ⟨rfl, HP8.out, HG8.out⟩

set_option maxRecDepth 100000 in
set_option maxHeartbeats 1000000 in
theorem uread_text_err (p : Nat) (l : List UInt8) (e : Int) (w : World) (h : RR w p l e) (K : Nat) (l1 : List UInt8) (hK : (numR 6 l e).1 = K) (hl1 : (numR 6 l e).2.1 = l1) (he1 : (numR 6 l e).2.2 = 0) (hp : partsV (K : Int) = 2) (t : List UInt8) (l2 : List UInt8) (e2 : Int) (hT : (textR 16 l1 0).1 = t) (hl2 : (textR 16 l1 0).2.1 = l2) (he2 : (textR 16 l1 0).2.2 = e2) (hbad : e2 ≠ 0) :
    Calls Tryd.prog 78 #[.pointer (some ⟨p, 0, none⟩)] w fun x w' => x = .returned (default : Cv).val ∧ RR w' p l2 e2 ∧ Gw p w w' := by
  have HP := Lib.hid h
  have CZ := Lib.hid cv_zero
  have CSZ := Lib.hid cv_size
  have HK := Lib.hid hK
  have HL1 := Lib.hid hl1
  have HE1 := Lib.hid he1
  have HPT := Lib.hid hp
  have hk6 : (K : Int) ≤ 6 := by
    rw [← hK]
    by_cases he : e = 0
    · subst he; exact numR_le (by decide) (Decidable.em _)
    · rw [numR_err he]; exact (by decide : ((0 : Nat) : Int) ≤ 6)
  have hk0 : K ≠ 0 := by intro h0; rw [h0] at hp; exact absurd hp (by decide)
  have bk : ((K : Int) == 0) = false := by simpa using hk0
  have HNM := Lib.hid (show namedV (K : Int) = true by unfold namedV; rw [hp]; decide)
  obtain ⟨s, hs⟩ : ∃ s, str t = s := ⟨_, rfl⟩
  have HT := Lib.hid hT
  have HL2 := Lib.hid hl2
  have HE2 := Lib.hid he2
  have HS := Lib.hid hs
  have htl : t.length ≤ 16 := by
    rw [← hT]
    by_cases h2 : (textR 16 l1 0).2.2 = 0
    · have := (text_back 16 l1 h2).2; omega
    · rw [textR_none h2]; simp
  have hsz : s.size ≤ 16 := by rw [← hs, str_size]; exact htl
  have HFIT := Lib.hid (show Cv.fit ⟨K, 0, s⟩ from cv_fit_of _ _ _ (by omega) (by omega) (by decide) (by decide) (by unfold maxLen; omega))
  have b3 : (e2 == 0) = false := by simpa using hbad
  have b4 : (e2 != 0) = true := by simpa using hbad
  clear hbad hk0 hs
  clear hT hl2 he2 htl
  clear h hK hl1 he1 hp hk6
  go_enter Tryd.func78, Tryd.ntmps78
  go_wp2_with (with_reducible refine alloc_row (o := ⟨some 2, _, _, _, _, _⟩) rfl _ rfl _ CZ.out ?_; intro w1 hr1 hb1 hz1; have HR1 := Lib.hid hr1; have HP1 := Lib.hid (HP.out.mono hb1); have HG1 := Lib.hid (show Gw p w w1 from Gw.of_below hb1); have HN1 := Lib.hid (show w.heap.size ≠ p by have := HP.out.lt; omega); clear hr1 hb1 hz1)
  refine (rnumR p 6 l e w1 HP1.out).mono ?_
  rw [HK.out, HL1.out, HE1.out]
  rintro x w2 ⟨rfl, hP2, hu2⟩
  have HP2 := Lib.hid hP2
  have HG2 := Lib.hid (HG1.out.trans (Gw.upd hu2))
  have HR2 := Lib.hid (HR1.out.upd hu2 HN1.out)
  clear hP2 hu2
  go_wp2_with (first
    | (with_reducible refine alloc_row (o := ⟨some 3, _, _, _, _, _⟩) rfl _ rfl _ CZ.out ?_; intro w3 hr3 hb3 hz3; have HR3 := Lib.hid hr3; have HB3 := Lib.hid hb3; have HRA := Lib.hid (HR2.out.below hb3 HR2.out.lt); have HN3 := Lib.hid (show w2.heap.size ≠ p by have := HP2.out.lt; omega); have HNA := Lib.hid (show w.heap.size ≠ w2.heap.size by have := HR2.out.lt; omega); clear hr3 hb3 hz3)
    | (refine store_row (o := ⟨none, _, _, _, _, _⟩) rfl _ _ _ rfl w2.heap.size [.int .i64 (K : Int), .int .i64 0, .string ⟨#[]⟩] (by go_simp) (by go_simp) 49 _ HR3.out CSZ.out rfl (by intro v hv; simp at hv; rcases hv with rfl | rfl | rfl <;> rfl) ?_; intro w4 hr4 hu4; have HR4 := Lib.hid hr4; have HRB := Lib.hid (HRA.out.upd hu4 HNA.out); have HB4 := Lib.hid (HB3.out.trans (hu4.below (Nat.le_refl _))); clear hr4 hu4; have f0 := HR4.out.c0; have f1 := HR4.out.c1; have f2 := HR4.out.c2))
  refine (rerr p _ _ w4 (HP2.out.mono HB4.out)).mono ?_
  rintro x wq ⟨rfl, rfl⟩
  go_wp2_with fail
  refine (unamed _ _).mono ?_
  rw [HNM.out]
  rintro x wq ⟨rfl, rfl⟩
  go_wp2_with fail
  refine (rtextR p 16 l1 0 w4 (HP2.out.mono HB4.out)).mono ?_
  rw [HT.out, HL2.out, HE2.out, HS.out]
  rintro x w5 ⟨rfl, hP5, hu5⟩
  have HP5 := Lib.hid hP5
  have HR5 := Lib.hid (HR4.out.upd hu5 HN3.out)
  have HRB5 := Lib.hid (HRB.out.upd hu5 HN1.out)
  have HG5 := Lib.hid ((HG2.out.trans (Gw.of_below HB4.out)).trans (Gw.upd hu5))
  have HS5 := Lib.hid (show w.heap.size ≤ w2.heap.size from HG2.out.size)
  clear hP5 hu5 f0 f1 f2
  have f0 := HR5.out.c0
  have f1 := HR5.out.c1
  have f2 := HR5.out.c2
  have z1 := HR5.out.frozen 2
  go_wp2_with fail
  obtain ⟨w6, hw6⟩ : ∃ w6, w6 = w5.setCell ⟨w2.heap.size, 2, none⟩ (.string s) := ⟨_, rfl⟩
  rw [← hw6]
  have hu6 : Upd w5 w6 w2.heap.size := by rw [hw6]; exact Upd.setCell _ _ _ _
  have HR6 := Lib.hid (show Row w6 w2.heap.size 49 [.int .i64 (K : Int), .int .i64 0, .string s] by rw [hw6]; exact HR5.out.setV 2 _)
  have HP6 := Lib.hid (HP5.out.cv HR5.out hu6)
  have HRB6 := Lib.hid (HRB5.out.upd hu6 HNA.out)
  have HG6 := Lib.hid (HG5.out.tail HS5.out hu6)
  clear f0 f1 f2 z1 hw6 hu6
  have f0 := HR6.out.c0
  have f1 := HR6.out.c1
  have f2 := HR6.out.c2
  refine (rerr p _ _ w6 HP6.out).mono ?_
  rintro x wq ⟨rfl, rfl⟩
  go_wp2_with fail
  refine (rerr p _ _ w6 HP6.out).mono ?_
  rintro x w8 ⟨rfl, rfl⟩
  go_wp2_with (refine store_row (o := ⟨none, _, _, _, _, _⟩) rfl _ _ _ rfl w.heap.size [.int .i64 0, .int .i64 0, .string ⟨#[]⟩] (by go_simp) (by go_simp) 49 _ HRB6.out CSZ.out rfl (by intro v hv; simp at hv; rcases hv with rfl | rfl | rfl <;> rfl) ?_; intro w8 hr8 hu8; have HR8 := Lib.hid hr8; have HP8 := Lib.hid (HP6.out.cv HRB6.out hu8); have HG8 := Lib.hid (HG6.out.tail (Nat.le_refl _) hu8); clear hr8 hu8)
  exact bodyPost_ret (results_cell_row rfl _ _ w.heap.size 49 _ _ _ (by go_simp) HR8.out Tryd.underlying49 rfl CSZ.out) rfl ⟨rfl, HP8.out, HG8.out⟩

set_option maxRecDepth 100000 in
set_option maxHeartbeats 1000000 in
theorem uread_text_bad (p : Nat) (l : List UInt8) (e : Int) (w : World) (h : RR w p l e) (K : Nat) (l1 : List UInt8) (hK : (numR 6 l e).1 = K) (hl1 : (numR 6 l e).2.1 = l1) (he1 : (numR 6 l e).2.2 = 0) (hp : partsV (K : Int) = 2) (t : List UInt8) (l2 : List UInt8) (e2 : Int) (hT : (textR 16 l1 0).1 = t) (hl2 : (textR 16 l1 0).2.1 = l2) (he2 : (textR 16 l1 0).2.2 = e2) (he0 : e2 = 0) (hbad : nameV (str t) = false) :
    Calls Tryd.prog 78 #[.pointer (some ⟨p, 0, none⟩)] w fun x w' => x = .returned (default : Cv).val ∧ RR w' p [] 3 ∧ Gw p w w' := by
  have HP := Lib.hid h
  have CZ := Lib.hid cv_zero
  have CSZ := Lib.hid cv_size
  have HK := Lib.hid hK
  have HL1 := Lib.hid hl1
  have HE1 := Lib.hid he1
  have HPT := Lib.hid hp
  have hk6 : (K : Int) ≤ 6 := by
    rw [← hK]
    by_cases he : e = 0
    · subst he; exact numR_le (by decide) (Decidable.em _)
    · rw [numR_err he]; exact (by decide : ((0 : Nat) : Int) ≤ 6)
  have hk0 : K ≠ 0 := by intro h0; rw [h0] at hp; exact absurd hp (by decide)
  have bk : ((K : Int) == 0) = false := by simpa using hk0
  have HNM := Lib.hid (show namedV (K : Int) = true by unfold namedV; rw [hp]; decide)
  obtain ⟨s, hs⟩ : ∃ s, str t = s := ⟨_, rfl⟩
  have HT := Lib.hid hT
  have HL2 := Lib.hid hl2
  have HE2 := Lib.hid he2
  have HS := Lib.hid hs
  have htl : t.length ≤ 16 := by
    rw [← hT]
    by_cases h2 : (textR 16 l1 0).2.2 = 0
    · have := (text_back 16 l1 h2).2; omega
    · rw [textR_none h2]; simp
  have hsz : s.size ≤ 16 := by rw [← hs, str_size]; exact htl
  have HFIT := Lib.hid (show Cv.fit ⟨K, 0, s⟩ from cv_fit_of _ _ _ (by omega) (by omega) (by decide) (by decide) (by unfold maxLen; omega))
  rw [hs] at hbad
  have HER := Lib.hid (show Cv.err ⟨K, 0, s⟩ = 1 by rw [err_name (K : Int) s hp, hbad]; rfl)
  subst he0
  clear hbad hs hk0
  clear hT hl2 he2 htl
  clear h hK hl1 he1 hp hk6
  go_enter Tryd.func78, Tryd.ntmps78
  go_wp2_with (with_reducible refine alloc_row (o := ⟨some 2, _, _, _, _, _⟩) rfl _ rfl _ CZ.out ?_; intro w1 hr1 hb1 hz1; have HR1 := Lib.hid hr1; have HP1 := Lib.hid (HP.out.mono hb1); have HG1 := Lib.hid (show Gw p w w1 from Gw.of_below hb1); have HN1 := Lib.hid (show w.heap.size ≠ p by have := HP.out.lt; omega); clear hr1 hb1 hz1)
  refine (rnumR p 6 l e w1 HP1.out).mono ?_
  rw [HK.out, HL1.out, HE1.out]
  rintro x w2 ⟨rfl, hP2, hu2⟩
  have HP2 := Lib.hid hP2
  have HG2 := Lib.hid (HG1.out.trans (Gw.upd hu2))
  have HR2 := Lib.hid (HR1.out.upd hu2 HN1.out)
  clear hP2 hu2
  go_wp2_with (first
    | (with_reducible refine alloc_row (o := ⟨some 3, _, _, _, _, _⟩) rfl _ rfl _ CZ.out ?_; intro w3 hr3 hb3 hz3; have HR3 := Lib.hid hr3; have HB3 := Lib.hid hb3; have HRA := Lib.hid (HR2.out.below hb3 HR2.out.lt); have HN3 := Lib.hid (show w2.heap.size ≠ p by have := HP2.out.lt; omega); have HNA := Lib.hid (show w.heap.size ≠ w2.heap.size by have := HR2.out.lt; omega); clear hr3 hb3 hz3)
    | (refine store_row (o := ⟨none, _, _, _, _, _⟩) rfl _ _ _ rfl w2.heap.size [.int .i64 (K : Int), .int .i64 0, .string ⟨#[]⟩] (by go_simp) (by go_simp) 49 _ HR3.out CSZ.out rfl (by intro v hv; simp at hv; rcases hv with rfl | rfl | rfl <;> rfl) ?_; intro w4 hr4 hu4; have HR4 := Lib.hid hr4; have HRB := Lib.hid (HRA.out.upd hu4 HNA.out); have HB4 := Lib.hid (HB3.out.trans (hu4.below (Nat.le_refl _))); clear hr4 hu4; have f0 := HR4.out.c0; have f1 := HR4.out.c1; have f2 := HR4.out.c2))
  refine (rerr p _ _ w4 (HP2.out.mono HB4.out)).mono ?_
  rintro x wq ⟨rfl, rfl⟩
  go_wp2_with fail
  refine (unamed _ _).mono ?_
  rw [HNM.out]
  rintro x wq ⟨rfl, rfl⟩
  go_wp2_with fail
  refine (rtextR p 16 l1 0 w4 (HP2.out.mono HB4.out)).mono ?_
  rw [HT.out, HL2.out, HE2.out, HS.out]
  rintro x w5 ⟨rfl, hP5, hu5⟩
  have HP5 := Lib.hid hP5
  have HR5 := Lib.hid (HR4.out.upd hu5 HN3.out)
  have HRB5 := Lib.hid (HRB.out.upd hu5 HN1.out)
  have HG5 := Lib.hid ((HG2.out.trans (Gw.of_below HB4.out)).trans (Gw.upd hu5))
  have HS5 := Lib.hid (show w.heap.size ≤ w2.heap.size from HG2.out.size)
  clear hP5 hu5 f0 f1 f2
  have f0 := HR5.out.c0
  have f1 := HR5.out.c1
  have f2 := HR5.out.c2
  have z1 := HR5.out.frozen 2
  go_wp2_with fail
  obtain ⟨w6, hw6⟩ : ∃ w6, w6 = w5.setCell ⟨w2.heap.size, 2, none⟩ (.string s) := ⟨_, rfl⟩
  rw [← hw6]
  have hu6 : Upd w5 w6 w2.heap.size := by rw [hw6]; exact Upd.setCell _ _ _ _
  have HR6 := Lib.hid (show Row w6 w2.heap.size 49 [.int .i64 (K : Int), .int .i64 0, .string s] by rw [hw6]; exact HR5.out.setV 2 _)
  have HP6 := Lib.hid (HP5.out.cv HR5.out hu6)
  have HRB6 := Lib.hid (HRB5.out.upd hu6 HNA.out)
  have HG6 := Lib.hid (HG5.out.tail HS5.out hu6)
  clear f0 f1 f2 z1 hw6 hu6
  have f0 := HR6.out.c0
  have f1 := HR6.out.c1
  have f2 := HR6.out.c2
  refine (rerr p _ _ w6 HP6.out).mono ?_
  rintro x wq ⟨rfl, rfl⟩
  go_wp2_with fail
  refine (ucheck ⟨K, 0, s⟩ w6 HFIT.out).mono ?_
  rw [HER.out]
  rintro x w7 ⟨rfl, hb7⟩
  have HP7 := Lib.hid (HP6.out.mono hb7)
  have HR7 := Lib.hid (HR6.out.below hb7 HR6.out.lt)
  have HRB7 := Lib.hid (HRB6.out.below hb7 HRB6.out.lt)
  have HG7 := Lib.hid (HG6.out.trans (Gw.of_below hb7))
  clear hb7
  have f0 := HR7.out.c0
  have f1 := HR7.out.c1
  have f2 := HR7.out.c2
  go_wp2_with fail
  refine (rfail p l2 0 3 w7 HP7.out).mono ?_
  rintro x w7' ⟨rfl, hP7', hu7⟩
  rw [failL_three, failE_three] at hP7'
  have HP7' := Lib.hid hP7'
  have HR7' := Lib.hid (HR7.out.upd hu7 HN3.out)
  have HRB7' := Lib.hid (HRB7.out.upd hu7 HN1.out)
  have HG7' := Lib.hid (HG7.out.trans (Gw.upd hu7))
  clear f0 f1 f2 hP7' hu7
  go_wp2_with fail
  refine (rerr p _ _ w7' HP7'.out).mono ?_
  rintro x w8 ⟨rfl, rfl⟩
  go_wp2_with (refine store_row (o := ⟨none, _, _, _, _, _⟩) rfl _ _ _ rfl w.heap.size [.int .i64 0, .int .i64 0, .string ⟨#[]⟩] (by go_simp) (by go_simp) 49 _ HRB7'.out CSZ.out rfl (by intro v hv; simp at hv; rcases hv with rfl | rfl | rfl <;> rfl) ?_; intro w8 hr8 hu8; have HR8 := Lib.hid hr8; have HP8 := Lib.hid (HP7'.out.cv HRB7'.out hu8); have HG8 := Lib.hid (HG7'.out.tail (Nat.le_refl _) hu8); clear hr8 hu8)
  exact bodyPost_ret (results_cell_row rfl _ _ w.heap.size 49 _ _ _ (by go_simp) HR8.out Tryd.underlying49 rfl CSZ.out) rfl ⟨rfl, HP8.out, HG8.out⟩

set_option maxRecDepth 100000 in
set_option maxHeartbeats 1000000 in
theorem uread_text_ok (p : Nat) (l : List UInt8) (e : Int) (w : World) (h : RR w p l e) (K : Nat) (l1 : List UInt8) (hK : (numR 6 l e).1 = K) (hl1 : (numR 6 l e).2.1 = l1) (he1 : (numR 6 l e).2.2 = 0) (hp : partsV (K : Int) = 2) (t : List UInt8) (l2 : List UInt8) (e2 : Int) (hT : (textR 16 l1 0).1 = t) (hl2 : (textR 16 l1 0).2.1 = l2) (he2 : (textR 16 l1 0).2.2 = e2) (he0 : e2 = 0) (hok : nameV (str t) = true) :
    Calls Tryd.prog 78 #[.pointer (some ⟨p, 0, none⟩)] w fun x w' => x = .returned (⟨K, 0, str t⟩ : Cv).val ∧ RR w' p l2 0 ∧ Gw p w w' := by
  have HP := Lib.hid h
  have CZ := Lib.hid cv_zero
  have CSZ := Lib.hid cv_size
  have HK := Lib.hid hK
  have HL1 := Lib.hid hl1
  have HE1 := Lib.hid he1
  have HPT := Lib.hid hp
  have hk6 : (K : Int) ≤ 6 := by
    rw [← hK]
    by_cases he : e = 0
    · subst he; exact numR_le (by decide) (Decidable.em _)
    · rw [numR_err he]; exact (by decide : ((0 : Nat) : Int) ≤ 6)
  have hk0 : K ≠ 0 := by intro h0; rw [h0] at hp; exact absurd hp (by decide)
  have bk : ((K : Int) == 0) = false := by simpa using hk0
  have HNM := Lib.hid (show namedV (K : Int) = true by unfold namedV; rw [hp]; decide)
  obtain ⟨s, hs⟩ : ∃ s, str t = s := ⟨_, rfl⟩
  have HT := Lib.hid hT
  have HL2 := Lib.hid hl2
  have HE2 := Lib.hid he2
  have HS := Lib.hid hs
  have htl : t.length ≤ 16 := by
    rw [← hT]
    by_cases h2 : (textR 16 l1 0).2.2 = 0
    · have := (text_back 16 l1 h2).2; omega
    · rw [textR_none h2]; simp
  have hsz : s.size ≤ 16 := by rw [← hs, str_size]; exact htl
  have HFIT := Lib.hid (show Cv.fit ⟨K, 0, s⟩ from cv_fit_of _ _ _ (by omega) (by omega) (by decide) (by decide) (by unfold maxLen; omega))
  rw [hs] at hok ⊢
  have HER := Lib.hid (show Cv.err ⟨K, 0, s⟩ = 0 by rw [err_name (K : Int) s hp, hok]; rfl)
  subst he0
  clear hok hs hk0
  clear hT hl2 he2 htl
  clear h hK hl1 he1 hp hk6
  go_enter Tryd.func78, Tryd.ntmps78
  go_wp2_with (with_reducible refine alloc_row (o := ⟨some 2, _, _, _, _, _⟩) rfl _ rfl _ CZ.out ?_; intro w1 hr1 hb1 hz1; have HR1 := Lib.hid hr1; have HP1 := Lib.hid (HP.out.mono hb1); have HG1 := Lib.hid (show Gw p w w1 from Gw.of_below hb1); have HN1 := Lib.hid (show w.heap.size ≠ p by have := HP.out.lt; omega); clear hr1 hb1 hz1)
  refine (rnumR p 6 l e w1 HP1.out).mono ?_
  rw [HK.out, HL1.out, HE1.out]
  rintro x w2 ⟨rfl, hP2, hu2⟩
  have HP2 := Lib.hid hP2
  have HG2 := Lib.hid (HG1.out.trans (Gw.upd hu2))
  have HR2 := Lib.hid (HR1.out.upd hu2 HN1.out)
  clear hP2 hu2
  go_wp2_with (first
    | (with_reducible refine alloc_row (o := ⟨some 3, _, _, _, _, _⟩) rfl _ rfl _ CZ.out ?_; intro w3 hr3 hb3 hz3; have HR3 := Lib.hid hr3; have HB3 := Lib.hid hb3; have HRA := Lib.hid (HR2.out.below hb3 HR2.out.lt); have HN3 := Lib.hid (show w2.heap.size ≠ p by have := HP2.out.lt; omega); have HNA := Lib.hid (show w.heap.size ≠ w2.heap.size by have := HR2.out.lt; omega); clear hr3 hb3 hz3)
    | (refine store_row (o := ⟨none, _, _, _, _, _⟩) rfl _ _ _ rfl w2.heap.size [.int .i64 (K : Int), .int .i64 0, .string ⟨#[]⟩] (by go_simp) (by go_simp) 49 _ HR3.out CSZ.out rfl (by intro v hv; simp at hv; rcases hv with rfl | rfl | rfl <;> rfl) ?_; intro w4 hr4 hu4; have HR4 := Lib.hid hr4; have HRB := Lib.hid (HRA.out.upd hu4 HNA.out); have HB4 := Lib.hid (HB3.out.trans (hu4.below (Nat.le_refl _))); clear hr4 hu4; have f0 := HR4.out.c0; have f1 := HR4.out.c1; have f2 := HR4.out.c2))
  refine (rerr p _ _ w4 (HP2.out.mono HB4.out)).mono ?_
  rintro x wq ⟨rfl, rfl⟩
  go_wp2_with fail
  refine (unamed _ _).mono ?_
  rw [HNM.out]
  rintro x wq ⟨rfl, rfl⟩
  go_wp2_with fail
  refine (rtextR p 16 l1 0 w4 (HP2.out.mono HB4.out)).mono ?_
  rw [HT.out, HL2.out, HE2.out, HS.out]
  rintro x w5 ⟨rfl, hP5, hu5⟩
  have HP5 := Lib.hid hP5
  have HR5 := Lib.hid (HR4.out.upd hu5 HN3.out)
  have HRB5 := Lib.hid (HRB.out.upd hu5 HN1.out)
  have HG5 := Lib.hid ((HG2.out.trans (Gw.of_below HB4.out)).trans (Gw.upd hu5))
  have HS5 := Lib.hid (show w.heap.size ≤ w2.heap.size from HG2.out.size)
  clear hP5 hu5 f0 f1 f2
  have f0 := HR5.out.c0
  have f1 := HR5.out.c1
  have f2 := HR5.out.c2
  have z1 := HR5.out.frozen 2
  go_wp2_with fail
  obtain ⟨w6, hw6⟩ : ∃ w6, w6 = w5.setCell ⟨w2.heap.size, 2, none⟩ (.string s) := ⟨_, rfl⟩
  rw [← hw6]
  have hu6 : Upd w5 w6 w2.heap.size := by rw [hw6]; exact Upd.setCell _ _ _ _
  have HR6 := Lib.hid (show Row w6 w2.heap.size 49 [.int .i64 (K : Int), .int .i64 0, .string s] by rw [hw6]; exact HR5.out.setV 2 _)
  have HP6 := Lib.hid (HP5.out.cv HR5.out hu6)
  have HRB6 := Lib.hid (HRB5.out.upd hu6 HNA.out)
  have HG6 := Lib.hid (HG5.out.tail HS5.out hu6)
  clear f0 f1 f2 z1 hw6 hu6
  have f0 := HR6.out.c0
  have f1 := HR6.out.c1
  have f2 := HR6.out.c2
  refine (rerr p _ _ w6 HP6.out).mono ?_
  rintro x wq ⟨rfl, rfl⟩
  go_wp2_with fail
  refine (ucheck ⟨K, 0, s⟩ w6 HFIT.out).mono ?_
  rw [HER.out]
  rintro x w7 ⟨rfl, hb7⟩
  have HP7 := Lib.hid (HP6.out.mono hb7)
  have HR7 := Lib.hid (HR6.out.below hb7 HR6.out.lt)
  have HRB7 := Lib.hid (HRB6.out.below hb7 HRB6.out.lt)
  have HG7 := Lib.hid (HG6.out.trans (Gw.of_below hb7))
  clear hb7
  have f0 := HR7.out.c0
  have f1 := HR7.out.c1
  have f2 := HR7.out.c2
  go_wp2_with fail
  refine (rerr p _ _ w7 HP7.out).mono ?_
  rintro x w8 ⟨rfl, rfl⟩
  go_wp2_with (refine store_row (o := ⟨none, _, _, _, _, _⟩) rfl _ _ _ rfl w.heap.size [.int .i64 (K : Int), .int .i64 0, .string s] (by go_simp) (by go_simp) 49 _ HRB7.out CSZ.out rfl (by intro v hv; simp at hv; rcases hv with rfl | rfl | rfl <;> rfl) ?_; intro w8 hr8 hu8; have HR8 := Lib.hid hr8; have HP8 := Lib.hid (HP7.out.cv HRB7.out hu8); have HG8 := Lib.hid (HG7.out.tail (Nat.le_refl _) hu8); clear hr8 hu8)
  exact bodyPost_ret (results_cell_row rfl _ _ w.heap.size 49 _ _ _ (by go_simp) HR8.out Tryd.underlying49 rfl CSZ.out) rfl ⟨rfl, HP8.out, HG8.out⟩

theorem uread_any (p : Nat) (l : List UInt8) (e : Int) (w : World) (h : RR w p l e) :
    Calls Tryd.prog 78 #[.pointer (some ⟨p, 0, none⟩)] w fun x w' => x = .returned (readS l e).1.val ∧ RR w' p (readS l e).2.1 (readS l e).2.2 ∧ Gw p w w' := by
  by_cases h1 : (numR 6 l e).2.2 = 0
  · have e0 : readS l e = readK ((numR 6 l e).1 : Int) (numR 6 l e).2.1 := by unfold readS; rw [if_neg (by simp [h1])]
    rw [e0]
    unfold readK
    rcases parts_ne ((numR 6 l e).1 : Int) with hp | hp | hp
    · rw [if_neg (by rw [hp]; decide), if_neg (by rw [hp]; decide)]
      have hk6 : ((numR 6 l e).1 : Int) ≤ 6 := by
        by_cases he : e = 0
        · subst he; exact numR_le (by decide) (Decidable.em _)
        · rw [numR_err he]; exact (by decide : ((0 : Nat) : Int) ≤ 6)
      have hz := parts_zero _ hp
      exact uread_zero p l e w h _ _ _ rfl rfl rfl h1 (by omega)
    · rw [if_neg (by rw [hp]; decide), if_pos hp]
      by_cases h2 : (numR (mostV ((numR 6 l e).1 : Int)) (numR 6 l e).2.1 0).2.2 = 0
      · rw [if_neg (by simp [h2])]
        have := uread_num_ok p l e w h _ _ rfl rfl h1 hp _ _ _ rfl rfl rfl h2
        rw [h2] at this
        exact this
      · rw [if_pos h2]
        exact uread_num_bad p l e w h _ _ rfl rfl h1 hp _ _ _ rfl rfl rfl h2
    · rw [if_pos hp]
      by_cases h2 : (textR 16 (numR 6 l e).2.1 0).2.2 = 0
      · rw [if_neg (by simp [h2])]
        rcases h3 : nameV (str (textR 16 (numR 6 l e).2.1 0).1) with _ | _
        · rw [if_neg (by decide)]
          exact uread_text_bad p l e w h _ _ rfl rfl h1 hp _ _ _ rfl rfl rfl h2 h3
        · rw [if_pos rfl]
          exact uread_text_ok p l e w h _ _ rfl rfl h1 hp _ _ _ rfl rfl rfl h2 h3
      · rw [if_pos h2]
        exact uread_text_err p l e w h _ _ rfl rfl h1 hp _ _ _ rfl rfl rfl h2
  · have e0 : readS l e = (default, (numR 6 l e).2.1, (numR 6 l e).2.2) := by unfold readS; rw [if_pos h1]
    rw [e0]
    exact uread_err p l e w h _ _ _ rfl rfl rfl h1

end Go.Proofs.YtlclkikbocbenaaDoor.W
