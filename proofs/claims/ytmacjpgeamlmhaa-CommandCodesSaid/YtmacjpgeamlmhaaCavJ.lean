/- CONTRACTS of layer 6 (caveat): reading a caveat (the reference's). CAVEATS that a call made and owns, in a row that holds no byte: so no slice of bytes lies in it, and a reader stays where they are appended to. CONTRACTS of layer 6 (caveat): the list whose bytes these are, of both. -/
import Derived.Test.YtmacjpgeamlmhaaCavG
import Derived.Test.YtmacjpgeamlmhaaCavK
import Derived.Test.YtmacjpgeamlmhaaPackR5
set_option linter.unusedSimpArgs false
set_option linter.unusedVariables false
namespace Go.Proofs.Ytmacjpgeamlmhaa.W
open Go.ChangeShapes Go.WideShapes Go.ChangeAt Go.RowKit

theorem rmost_one (k : Int) (h : partsV k = 1) : rmostV k = mostV k := by
  rcases parts_any k with h1 | h1 | h1 | h1 | h1 | h1 | h1
  all_goals first | (obtain ⟨rfl, -, e⟩ := h1; rw [e]; decide) | (exfalso; omega)
theorem rmost_zero : rmostV 0 = 1099511627776 := by decide

theorem failL_three (l : List UInt8) : failL l 0 3 = [] := by unfold failL; rw [if_neg (by decide)]
theorem failE_three : failE 0 3 = 3 := by decide

set_option maxRecDepth 100000 in
set_option maxHeartbeats 1000000 in
theorem uread_err (p : Nat) (l : List UInt8) (e : Int) (w : World) (h : RR w p l e) (K : Nat) (l1 : List UInt8) (e1 : Int) (hK : (numR 6 l e).1 = K) (hl1 : (numR 6 l e).2.1 = l1) (he1 : (numR 6 l e).2.2 = e1) (hne : e1 ≠ 0) :
    Calls Try.prog 92 #[.pointer (some ⟨p, 0, none⟩)] w fun x w' => x = .returned (default : Cv).val ∧ RR w' p l1 e1 ∧ Gw p w w' := by
  have HP := Lib.hid h
  have CZ := Lib.hid cv_zero
  have CSZ := Lib.hid cv_size
  have HK := Lib.hid hK
  have HL1 := Lib.hid hl1
  have HE1 := Lib.hid he1
  have h0 : K = 0 := by rw [← hK]; exact numR_zero (by rw [he1]; exact hne)
  have HNM := Lib.hid (show namedV 0 = false by decide)
  have HMM := Lib.hid (show rmostV 0 = 1099511627776 by decide)
  have HNR := Lib.hid (numR_err (most := 1099511627776) (l := l1) hne)
  have b3 : (e1 == 0) = false := by simpa using hne
  have b4 : (e1 != 0) = true := by simpa using hne
  subst h0
  clear h hK hl1 he1 hne
  go_enter Try.func92, Try.ntmps92
  go_wp2_with (with_reducible refine alloc_row (o := ⟨some 2, _, _, _, _, _⟩) rfl _ rfl _ CZ.out ?_; intro w1 hr1 hb1 hz1; have HR1 := Lib.hid hr1; have HP1 := Lib.hid (HP.out.mono hb1); have HG1 := Lib.hid (show Gw p w w1 from Gw.of_below hb1); have HN1 := Lib.hid (show w.heap.size ≠ p by have := HP.out.lt; omega); clear hr1 hb1 hz1)
  refine (rnumR p 6 l e w1 HP1.out).mono ?_
  rw [HK.out, HL1.out, HE1.out]
  rintro x w2 ⟨rfl, hP2, hu2⟩
  have HP2 := Lib.hid hP2
  have HG2 := Lib.hid (HG1.out.trans (Gw.upd hu2))
  have HR2 := Lib.hid (HR1.out.upd hu2 HN1.out)
  clear hP2 hu2
  go_wp2_with (first
    | (with_reducible refine alloc_row (o := ⟨some 3, _, _, _, _, _⟩) rfl _ rfl _ CZ.out ?_; intro w3 hr3 hb3 hz3; have HR3 := Lib.hid hr3; have HB3 := Lib.hid hb3; have HRA := Lib.hid (HR2.out.below hb3 HR2.out.lt); have HN3 := Lib.hid (show w2.heap.size ≠ p by have := HP2.out.lt; omega); have HNA := Lib.hid (show w.heap.size ≠ w2.heap.size by have := HR2.out.lt; omega); clear hr3 hb3 hz3)
    | (refine store_row (o := ⟨none, _, _, _, _, _⟩) rfl _ _ _ rfl w2.heap.size [.int .i64 0, .int .i64 0, .string ⟨#[]⟩] (by go_simp) (by go_simp) 51 _ HR3.out CSZ.out rfl (by intro v hv; simp at hv; rcases hv with rfl | rfl | rfl <;> rfl) ?_; intro w4 hr4 hu4; have HR4 := Lib.hid hr4; have HRB := Lib.hid (HRA.out.upd hu4 HNA.out); have HB4 := Lib.hid (HB3.out.trans (hu4.below (Nat.le_refl _))); clear hr4 hu4; have f0 := HR4.out.c0; have f1 := HR4.out.c1; have f2 := HR4.out.c2))
  refine (rerr p _ _ w4 (HP2.out.mono HB4.out)).mono ?_
  rintro x wq ⟨rfl, rfl⟩
  go_wp2_with fail
  refine (unamed _ _).mono ?_
  rw [HNM.out]
  rintro x wq ⟨rfl, rfl⟩
  go_wp2_with fail
  refine (umost _ _).mono ?_
  rw [HMM.out]
  rintro x wq ⟨rfl, rfl⟩
  go_wp2_with fail
  refine (rnumR p 1099511627776 l1 e1 w4 (HP2.out.mono HB4.out)).mono ?_
  rw [HNR.out]
  rintro x w5 ⟨rfl, hP5, hu5⟩
  have HP5 := Lib.hid hP5
  have HR5 := Lib.hid (HR4.out.upd hu5 HN3.out)
  have HRB5 := Lib.hid (HRB.out.upd hu5 HN1.out)
  have HG5 := Lib.hid ((HG2.out.trans (Gw.of_below HB4.out)).trans (Gw.upd hu5))
  have HS5 := Lib.hid (show w.heap.size ≤ w2.heap.size from HG2.out.size)
  clear hP5 hu5 f0 f1 f2
  have f0 := HR5.out.c0
  have f1 := HR5.out.c1
  have f2 := HR5.out.c2
  have z1 := HR5.out.frozen 1
  go_wp2_with fail
  obtain ⟨w6, hw6⟩ : ∃ w6, w6 = w5.setCell ⟨w2.heap.size, 1, none⟩ (.int .i64 0) := ⟨_, rfl⟩
  rw [← hw6]
  have hu6 : Upd w5 w6 w2.heap.size := by rw [hw6]; exact Upd.setCell _ _ _ _
  have HR6 := Lib.hid (show Row w6 w2.heap.size 51 [.int .i64 0, .int .i64 0, .string ⟨#[]⟩] by rw [hw6]; exact HR5.out.setV 1 _)
  have HP6 := Lib.hid (HP5.out.cv HR5.out hu6)
  have HRB6 := Lib.hid (HRB5.out.upd hu6 HNA.out)
  have HG6 := Lib.hid (HG5.out.tail HS5.out hu6)
  clear f0 f1 f2 z1 hw6 hu6
  have f0 := HR6.out.c0
  have f1 := HR6.out.c1
  have f2 := HR6.out.c2
  refine (rerr p _ _ w6 HP6.out).mono ?_
  rintro x wq ⟨rfl, rfl⟩
  go_wp2_with fail
  refine (rerr p _ _ w6 HP6.out).mono ?_
  rintro x w8 ⟨rfl, rfl⟩
  go_wp2_with (refine store_row (o := ⟨none, _, _, _, _, _⟩) rfl _ _ _ rfl w.heap.size [.int .i64 0, .int .i64 0, .string ⟨#[]⟩] (by go_simp) (by go_simp) 51 _ HRB6.out CSZ.out rfl (by intro v hv; simp at hv; rcases hv with rfl | rfl | rfl <;> rfl) ?_; intro w8 hr8 hu8; have HR8 := Lib.hid hr8; have HP8 := Lib.hid (HP6.out.cv HRB6.out hu8); have HG8 := Lib.hid (HG6.out.tail (Nat.le_refl _) hu8); clear hr8 hu8)
  exact bodyPost_ret (results_cell_row rfl _ _ w.heap.size 51 _ _ _ (by go_simp) HR8.out Try.underlying51 rfl CSZ.out) rfl ⟨rfl, HP8.out, HG8.out⟩

set_option maxRecDepth 100000 in
set_option maxHeartbeats 1000000 in
theorem uread_zero (p : Nat) (l : List UInt8) (e : Int) (w : World) (h : RR w p l e) (K : Nat) (l1 : List UInt8) (e1 : Int) (hK : (numR 6 l e).1 = K) (hl1 : (numR 6 l e).2.1 = l1) (he1 : (numR 6 l e).2.2 = e1) (he0 : e1 = 0) (h0 : K = 0) :
    Calls Try.prog 92 #[.pointer (some ⟨p, 0, none⟩)] w fun x w' => x = .returned (default : Cv).val ∧ RR w' p [] 3 ∧ Gw p w w' := by
  have HP := Lib.hid h
  have CZ := Lib.hid cv_zero
  have CSZ := Lib.hid cv_size
  have HK := Lib.hid hK
  have HL1 := Lib.hid hl1
  have HE1 := Lib.hid he1
  have HNM := Lib.hid (show namedV 0 = false by decide)
  have HMM := Lib.hid (show rmostV 0 = 1099511627776 by decide)
  have HNR := Lib.hid (numR_err (most := 1099511627776) (l := ([] : List UInt8)) (show (3 : Int) ≠ 0 by decide))
  subst h0 he0
  clear h hK hl1 he1
  go_enter Try.func92, Try.ntmps92
  go_wp2_with (with_reducible refine alloc_row (o := ⟨some 2, _, _, _, _, _⟩) rfl _ rfl _ CZ.out ?_; intro w1 hr1 hb1 hz1; have HR1 := Lib.hid hr1; have HP1 := Lib.hid (HP.out.mono hb1); have HG1 := Lib.hid (show Gw p w w1 from Gw.of_below hb1); have HN1 := Lib.hid (show w.heap.size ≠ p by have := HP.out.lt; omega); clear hr1 hb1 hz1)
  refine (rnumR p 6 l e w1 HP1.out).mono ?_
  rw [HK.out, HL1.out, HE1.out]
  rintro x w2 ⟨rfl, hP2, hu2⟩
  have HP2 := Lib.hid hP2
  have HG2 := Lib.hid (HG1.out.trans (Gw.upd hu2))
  have HR2 := Lib.hid (HR1.out.upd hu2 HN1.out)
  clear hP2 hu2
  go_wp2_with (first
    | (with_reducible refine alloc_row (o := ⟨some 3, _, _, _, _, _⟩) rfl _ rfl _ CZ.out ?_; intro w3 hr3 hb3 hz3; have HR3 := Lib.hid hr3; have HB3 := Lib.hid hb3; have HRA := Lib.hid (HR2.out.below hb3 HR2.out.lt); have HN3 := Lib.hid (show w2.heap.size ≠ p by have := HP2.out.lt; omega); have HNA := Lib.hid (show w.heap.size ≠ w2.heap.size by have := HR2.out.lt; omega); clear hr3 hb3 hz3)
    | (refine store_row (o := ⟨none, _, _, _, _, _⟩) rfl _ _ _ rfl w2.heap.size [.int .i64 0, .int .i64 0, .string ⟨#[]⟩] (by go_simp) (by go_simp) 51 _ HR3.out CSZ.out rfl (by intro v hv; simp at hv; rcases hv with rfl | rfl | rfl <;> rfl) ?_; intro w4 hr4 hu4; have HR4 := Lib.hid hr4; have HRB := Lib.hid (HRA.out.upd hu4 HNA.out); have HB4 := Lib.hid (HB3.out.trans (hu4.below (Nat.le_refl _))); clear hr4 hu4; have f0 := HR4.out.c0; have f1 := HR4.out.c1; have f2 := HR4.out.c2))
  refine (rerr p _ _ w4 (HP2.out.mono HB4.out)).mono ?_
  rintro x wq ⟨rfl, rfl⟩
  go_wp2_with fail
  refine (rfail p l1 0 3 w4 (HP2.out.mono HB4.out)).mono ?_
  rintro x w4' ⟨rfl, hP4, hu4⟩
  rw [failL_three, failE_three] at hP4
  have HP4 := Lib.hid hP4
  have HR4' := Lib.hid (HR4.out.upd hu4 HN3.out)
  have HRB' := Lib.hid (HRB.out.upd hu4 HN1.out)
  have HG4 := Lib.hid ((HG2.out.trans (Gw.of_below HB4.out)).trans (Gw.upd hu4))
  clear f0 f1 f2 hP4 hu4
  have f0 := HR4'.out.c0
  have f1 := HR4'.out.c1
  have f2 := HR4'.out.c2
  go_wp2_with fail
  refine (unamed _ _).mono ?_
  rw [HNM.out]
  rintro x wq ⟨rfl, rfl⟩
  go_wp2_with fail
  refine (umost _ _).mono ?_
  rw [HMM.out]
  rintro x wq ⟨rfl, rfl⟩
  go_wp2_with fail
  refine (rnumR p 1099511627776 [] 3 w4' HP4.out).mono ?_
  rw [HNR.out]
  rintro x w5 ⟨rfl, hP5, hu5⟩
  have HP5 := Lib.hid hP5
  have HR5 := Lib.hid (HR4'.out.upd hu5 HN3.out)
  have HRB5 := Lib.hid (HRB'.out.upd hu5 HN1.out)
  have HG5 := Lib.hid (HG4.out.trans (Gw.upd hu5))
  have HS5 := Lib.hid (show w.heap.size ≤ w2.heap.size from HG2.out.size)
  clear hP5 hu5 f0 f1 f2
  have f0 := HR5.out.c0
  have f1 := HR5.out.c1
  have f2 := HR5.out.c2
  have z1 := HR5.out.frozen 1
  go_wp2_with fail
  obtain ⟨w6, hw6⟩ : ∃ w6, w6 = w5.setCell ⟨w2.heap.size, 1, none⟩ (.int .i64 0) := ⟨_, rfl⟩
  rw [← hw6]
  have hu6 : Upd w5 w6 w2.heap.size := by rw [hw6]; exact Upd.setCell _ _ _ _
  have HR6 := Lib.hid (show Row w6 w2.heap.size 51 [.int .i64 0, .int .i64 0, .string ⟨#[]⟩] by rw [hw6]; exact HR5.out.setV 1 _)
  have HP6 := Lib.hid (HP5.out.cv HR5.out hu6)
  have HRB6 := Lib.hid (HRB5.out.upd hu6 HNA.out)
  have HG6 := Lib.hid (HG5.out.tail HS5.out hu6)
  clear f0 f1 f2 z1 hw6 hu6
  have f0 := HR6.out.c0
  have f1 := HR6.out.c1
  have f2 := HR6.out.c2
  refine (rerr p _ _ w6 HP6.out).mono ?_
  rintro x wq ⟨rfl, rfl⟩
  go_wp2_with fail
  refine (rerr p _ _ w6 HP6.out).mono ?_
  rintro x w8 ⟨rfl, rfl⟩
  go_wp2_with (refine store_row (o := ⟨none, _, _, _, _, _⟩) rfl _ _ _ rfl w.heap.size [.int .i64 0, .int .i64 0, .string ⟨#[]⟩] (by go_simp) (by go_simp) 51 _ HRB6.out CSZ.out rfl (by intro v hv; simp at hv; rcases hv with rfl | rfl | rfl <;> rfl) ?_; intro w8 hr8 hu8; have HR8 := Lib.hid hr8; have HP8 := Lib.hid (HP6.out.cv HRB6.out hu8); have HG8 := Lib.hid (HG6.out.tail (Nat.le_refl _) hu8); clear hr8 hu8)
  exact bodyPost_ret (results_cell_row rfl _ _ w.heap.size 51 _ _ _ (by go_simp) HR8.out Try.underlying51 rfl CSZ.out) rfl ⟨rfl, HP8.out, HG8.out⟩

set_option maxRecDepth 100000 in
set_option maxHeartbeats 1000000 in
theorem uread_num_bad (p : Nat) (l : List UInt8) (e : Int) (w : World) (h : RR w p l e) (K : Nat) (l1 : List UInt8) (hK : (numR 6 l e).1 = K) (hl1 : (numR 6 l e).2.1 = l1) (he1 : (numR 6 l e).2.2 = 0) (hp : partsV (K : Int) = 1) (n : Nat) (l2 : List UInt8) (e2 : Int) (hN : (numR (mostV (K : Int)) l1 0).1 = n) (hl2 : (numR (mostV (K : Int)) l1 0).2.1 = l2) (he2 : (numR (mostV (K : Int)) l1 0).2.2 = e2) (hbad : e2 ≠ 0) :
    Calls Try.prog 92 #[.pointer (some ⟨p, 0, none⟩)] w fun x w' => x = .returned (default : Cv).val ∧ RR w' p l2 e2 ∧ Gw p w w' := by
  have HP := Lib.hid h
  have CZ := Lib.hid cv_zero
  have CSZ := Lib.hid cv_size
  have HK := Lib.hid hK
  have HL1 := Lib.hid hl1
  have HE1 := Lib.hid he1
  have HPT := Lib.hid hp
  have hk6 : (K : Int) ≤ 6 := by
    rw [← hK]
    by_cases he : e = 0
    · subst he; exact numR_le (by decide) (Decidable.em _)
    · rw [numR_err he]; exact (by decide : ((0 : Nat) : Int) ≤ 6)
  have hk0 : K ≠ 0 := by intro h0; rw [h0] at hp; exact absurd hp (by decide)
  have bk : ((K : Int) == 0) = false := by simpa using hk0
  have HNM := Lib.hid (show namedV (K : Int) = false by unfold namedV; rw [hp]; decide)
  have hmp := most_pos (K : Int)
  obtain ⟨M, hM⟩ : ∃ M, mostV (K : Int) = M := ⟨_, rfl⟩
  rw [hM] at hmp hN hl2 he2
  have HM := Lib.hid (show rmostV (K : Int) = M by rw [rmost_one _ hp, hM])
  have HN := Lib.hid hN
  have HL2 := Lib.hid hl2
  have HE2 := Lib.hid he2
  have hnle : (n : Int) ≤ M := by rw [← hN]; exact numR_le hmp.1 (Decidable.em _)
  have HFIT := Lib.hid (show Cv.fit ⟨K, n, ⟨#[]⟩⟩ from cv_fit_of _ _ _ (by omega) (by omega) (by omega) (by omega) (by decide))
  have HER := Lib.hid (err_num (K : Int) n hp (by omega) (by rw [hM]; exact hnle))
  have b3 : (e2 == 0) = false := by simpa using hbad
  have b4 : (e2 != 0) = true := by simpa using hbad
  clear hbad hk0
  clear hN hl2 he2 hM hmp hnle
  clear h hK hl1 he1 hp hk6
  go_enter Try.func92, Try.ntmps92
  go_wp2_with (with_reducible refine alloc_row (o := ⟨some 2, _, _, _, _, _⟩) rfl _ rfl _ CZ.out ?_; intro w1 hr1 hb1 hz1; have HR1 := Lib.hid hr1; have HP1 := Lib.hid (HP.out.mono hb1); have HG1 := Lib.hid (show Gw p w w1 from Gw.of_below hb1); have HN1 := Lib.hid (show w.heap.size ≠ p by have := HP.out.lt; omega); clear hr1 hb1 hz1)
  refine (rnumR p 6 l e w1 HP1.out).mono ?_
  rw [HK.out, HL1.out, HE1.out]
  rintro x w2 ⟨rfl, hP2, hu2⟩
  have HP2 := Lib.hid hP2
  have HG2 := Lib.hid (HG1.out.trans (Gw.upd hu2))
  have HR2 := Lib.hid (HR1.out.upd hu2 HN1.out)
  clear hP2 hu2
  go_wp2_with (first
    | (with_reducible refine alloc_row (o := ⟨some 3, _, _, _, _, _⟩) rfl _ rfl _ CZ.out ?_; intro w3 hr3 hb3 hz3; have HR3 := Lib.hid hr3; have HB3 := Lib.hid hb3; have HRA := Lib.hid (HR2.out.below hb3 HR2.out.lt); have HN3 := Lib.hid (show w2.heap.size ≠ p by have := HP2.out.lt; omega); have HNA := Lib.hid (show w.heap.size ≠ w2.heap.size by have := HR2.out.lt; omega); clear hr3 hb3 hz3)
    | (refine store_row (o := ⟨none, _, _, _, _, _⟩) rfl _ _ _ rfl w2.heap.size [.int .i64 (K : Int), .int .i64 0, .string ⟨#[]⟩] (by go_simp) (by go_simp) 51 _ HR3.out CSZ.out rfl (by intro v hv; simp at hv; rcases hv with rfl | rfl | rfl <;> rfl) ?_; intro w4 hr4 hu4; have HR4 := Lib.hid hr4; have HRB := Lib.hid (HRA.out.upd hu4 HNA.out); have HB4 := Lib.hid (HB3.out.trans (hu4.below (Nat.le_refl _))); clear hr4 hu4; have f0 := HR4.out.c0; have f1 := HR4.out.c1; have f2 := HR4.out.c2))
  refine (rerr p _ _ w4 (HP2.out.mono HB4.out)).mono ?_
  rintro x wq ⟨rfl, rfl⟩
  go_wp2_with fail
  refine (unamed _ _).mono ?_
  rw [HNM.out]
  rintro x wq ⟨rfl, rfl⟩
  go_wp2_with fail
  refine (umost _ _).mono ?_
  rw [HM.out]
  rintro x wq ⟨rfl, rfl⟩
  go_wp2_with fail
  refine (rnumR p M l1 0 w4 (HP2.out.mono HB4.out)).mono ?_
  rw [HN.out, HL2.out, HE2.out]
  rintro x w5 ⟨rfl, hP5, hu5⟩
  have HP5 := Lib.hid hP5
  have HR5 := Lib.hid (HR4.out.upd hu5 HN3.out)
  have HRB5 := Lib.hid (HRB.out.upd hu5 HN1.out)
  have HG5 := Lib.hid ((HG2.out.trans (Gw.of_below HB4.out)).trans (Gw.upd hu5))
  have HS5 := Lib.hid (show w.heap.size ≤ w2.heap.size from HG2.out.size)
  clear hP5 hu5 f0 f1 f2
  have f0 := HR5.out.c0
  have f1 := HR5.out.c1
  have f2 := HR5.out.c2
  have z1 := HR5.out.frozen 1
  go_wp2_with fail
  obtain ⟨w6, hw6⟩ : ∃ w6, w6 = w5.setCell ⟨w2.heap.size, 1, none⟩ (.int .i64 (n : Int)) := ⟨_, rfl⟩
  rw [← hw6]
  have hu6 : Upd w5 w6 w2.heap.size := by rw [hw6]; exact Upd.setCell _ _ _ _
  have HR6 := Lib.hid (show Row w6 w2.heap.size 51 [.int .i64 (K : Int), .int .i64 (n : Int), .string ⟨#[]⟩] by rw [hw6]; exact HR5.out.setV 1 _)
  have HP6 := Lib.hid (HP5.out.cv HR5.out hu6)
  have HRB6 := Lib.hid (HRB5.out.upd hu6 HNA.out)
  have HG6 := Lib.hid (HG5.out.tail HS5.out hu6)
  clear f0 f1 f2 z1 hw6 hu6
  have f0 := HR6.out.c0
  have f1 := HR6.out.c1
  have f2 := HR6.out.c2
  refine (rerr p _ _ w6 HP6.out).mono ?_
  rintro x wq ⟨rfl, rfl⟩
  go_wp2_with fail
  refine (rerr p _ _ w6 HP6.out).mono ?_
  rintro x w8 ⟨rfl, rfl⟩
  go_wp2_with (refine store_row (o := ⟨none, _, _, _, _, _⟩) rfl _ _ _ rfl w.heap.size [.int .i64 0, .int .i64 0, .string ⟨#[]⟩] (by go_simp) (by go_simp) 51 _ HRB6.out CSZ.out rfl (by intro v hv; simp at hv; rcases hv with rfl | rfl | rfl <;> rfl) ?_; intro w8 hr8 hu8; have HR8 := Lib.hid hr8; have HP8 := Lib.hid (HP6.out.cv HRB6.out hu8); have HG8 := Lib.hid (HG6.out.tail (Nat.le_refl _) hu8); clear hr8 hu8)
  exact bodyPost_ret (results_cell_row rfl _ _ w.heap.size 51 _ _ _ (by go_simp) HR8.out Try.underlying51 rfl CSZ.out) rfl ⟨rfl, HP8.out, HG8.out⟩

set_option maxRecDepth 100000 in
set_option maxHeartbeats 1000000 in
theorem uread_num_ok (p : Nat) (l : List UInt8) (e : Int) (w : World) (h : RR w p l e) (K : Nat) (l1 : List UInt8) (hK : (numR 6 l e).1 = K) (hl1 : (numR 6 l e).2.1 = l1) (he1 : (numR 6 l e).2.2 = 0) (hp : partsV (K : Int) = 1) (n : Nat) (l2 : List UInt8) (e2 : Int) (hN : (numR (mostV (K : Int)) l1 0).1 = n) (hl2 : (numR (mostV (K : Int)) l1 0).2.1 = l2) (he2 : (numR (mostV (K : Int)) l1 0).2.2 = e2) (hok : e2 = 0) :
    Calls Try.prog 92 #[.pointer (some ⟨p, 0, none⟩)] w fun x w' => x = .returned (⟨K, n, ⟨#[]⟩⟩ : Cv).val ∧ RR w' p l2 e2 ∧ Gw p w w' := by
  have HP := Lib.hid h
  have CZ := Lib.hid cv_zero
  have CSZ := Lib.hid cv_size
  have HK := Lib.hid hK
  have HL1 := Lib.hid hl1
  have HE1 := Lib.hid he1
  have HPT := Lib.hid hp
  have hk6 : (K : Int) ≤ 6 := by
    rw [← hK]
    by_cases he : e = 0
    · subst he; exact numR_le (by decide) (Decidable.em _)
    · rw [numR_err he]; exact (by decide : ((0 : Nat) : Int) ≤ 6)
  have hk0 : K ≠ 0 := by intro h0; rw [h0] at hp; exact absurd hp (by decide)
  have bk : ((K : Int) == 0) = false := by simpa using hk0
  have HNM := Lib.hid (show namedV (K : Int) = false by unfold namedV; rw [hp]; decide)
  have hmp := most_pos (K : Int)
  obtain ⟨M, hM⟩ : ∃ M, mostV (K : Int) = M := ⟨_, rfl⟩
  rw [hM] at hmp hN hl2 he2
  have HM := Lib.hid (show rmostV (K : Int) = M by rw [rmost_one _ hp, hM])
  have HN := Lib.hid hN
  have HL2 := Lib.hid hl2
  have HE2 := Lib.hid he2
  have hnle : (n : Int) ≤ M := by rw [← hN]; exact numR_le hmp.1 (Decidable.em _)
  have HFIT := Lib.hid (show Cv.fit ⟨K, n, ⟨#[]⟩⟩ from cv_fit_of _ _ _ (by omega) (by omega) (by omega) (by omega) (by decide))
  have HER := Lib.hid (err_num (K : Int) n hp (by omega) (by rw [hM]; exact hnle))
  subst hok
  clear hk0
  clear hN hl2 he2 hM hmp hnle
  clear h hK hl1 he1 hp hk6
  go_enter Try.func92, Try.ntmps92
  go_wp2_with (with_reducible refine alloc_row (o := ⟨some 2, _, _, _, _, _⟩) rfl _ rfl _ CZ.out ?_; intro w1 hr1 hb1 hz1; have HR1 := Lib.hid hr1; have HP1 := Lib.hid (HP.out.mono hb1); have HG1 := Lib.hid (show Gw p w w1 from Gw.of_below hb1); have HN1 := Lib.hid (show w.heap.size ≠ p by have := HP.out.lt; omega); clear hr1 hb1 hz1)
  refine (rnumR p 6 l e w1 HP1.out).mono ?_
  rw [HK.out, HL1.out, HE1.out]
  rintro x w2 ⟨rfl, hP2, hu2⟩
  have HP2 := Lib.hid hP2
  have HG2 := Lib.hid (HG1.out.trans (Gw.upd hu2))
  have HR2 := Lib.hid (HR1.out.upd hu2 HN1.out)
  clear hP2 hu2
  go_wp2_with (first
    | (with_reducible refine alloc_row (o := ⟨some 3, _, _, _, _, _⟩) rfl _ rfl _ CZ.out ?_; intro w3 hr3 hb3 hz3; have HR3 := Lib.hid hr3; have HB3 := Lib.hid hb3; have HRA := Lib.hid (HR2.out.below hb3 HR2.out.lt); have HN3 := Lib.hid (show w2.heap.size ≠ p by have := HP2.out.lt; omega); have HNA := Lib.hid (show w.heap.size ≠ w2.heap.size by have := HR2.out.lt; omega); clear hr3 hb3 hz3)
    | (refine store_row (o := ⟨none, _, _, _, _, _⟩) rfl _ _ _ rfl w2.heap.size [.int .i64 (K : Int), .int .i64 0, .string ⟨#[]⟩] (by go_simp) (by go_simp) 51 _ HR3.out CSZ.out rfl (by intro v hv; simp at hv; rcases hv with rfl | rfl | rfl <;> rfl) ?_; intro w4 hr4 hu4; have HR4 := Lib.hid hr4; have HRB := Lib.hid (HRA.out.upd hu4 HNA.out); have HB4 := Lib.hid (HB3.out.trans (hu4.below (Nat.le_refl _))); clear hr4 hu4; have f0 := HR4.out.c0; have f1 := HR4.out.c1; have f2 := HR4.out.c2))
  refine (rerr p _ _ w4 (HP2.out.mono HB4.out)).mono ?_
  rintro x wq ⟨rfl, rfl⟩
  go_wp2_with fail
  refine (unamed _ _).mono ?_
  rw [HNM.out]
  rintro x wq ⟨rfl, rfl⟩
  go_wp2_with fail
  refine (umost _ _).mono ?_
  rw [HM.out]
  rintro x wq ⟨rfl, rfl⟩
  go_wp2_with fail
  refine (rnumR p M l1 0 w4 (HP2.out.mono HB4.out)).mono ?_
  rw [HN.out, HL2.out, HE2.out]
  rintro x w5 ⟨rfl, hP5, hu5⟩
  have HP5 := Lib.hid hP5
  have HR5 := Lib.hid (HR4.out.upd hu5 HN3.out)
  have HRB5 := Lib.hid (HRB.out.upd hu5 HN1.out)
  have HG5 := Lib.hid ((HG2.out.trans (Gw.of_below HB4.out)).trans (Gw.upd hu5))
  have HS5 := Lib.hid (show w.heap.size ≤ w2.heap.size from HG2.out.size)
  clear hP5 hu5 f0 f1 f2
  have f0 := HR5.out.c0
  have f1 := HR5.out.c1
  have f2 := HR5.out.c2
  have z1 := HR5.out.frozen 1
  go_wp2_with fail
  obtain ⟨w6, hw6⟩ : ∃ w6, w6 = w5.setCell ⟨w2.heap.size, 1, none⟩ (.int .i64 (n : Int)) := ⟨_, rfl⟩
  rw [← hw6]
  have hu6 : Upd w5 w6 w2.heap.size := by rw [hw6]; exact Upd.setCell _ _ _ _
  have HR6 := Lib.hid (show Row w6 w2.heap.size 51 [.int .i64 (K : Int), .int .i64 (n : Int), .string ⟨#[]⟩] by rw [hw6]; exact HR5.out.setV 1 _)
  have HP6 := Lib.hid (HP5.out.cv HR5.out hu6)
  have HRB6 := Lib.hid (HRB5.out.upd hu6 HNA.out)
  have HG6 := Lib.hid (HG5.out.tail HS5.out hu6)
  clear f0 f1 f2 z1 hw6 hu6
  have f0 := HR6.out.c0
  have f1 := HR6.out.c1
  have f2 := HR6.out.c2
  refine (rerr p _ _ w6 HP6.out).mono ?_
  rintro x wq ⟨rfl, rfl⟩
  go_wp2_with fail
  refine (ucheck ⟨K, n, ⟨#[]⟩⟩ w6 HFIT.out).mono ?_
  rw [HER.out]
  rintro x w7 ⟨rfl, hb7⟩
  have HP7 := Lib.hid (HP6.out.mono hb7)
  have HR7 := Lib.hid (HR6.out.below hb7 HR6.out.lt)
  have HRB7 := Lib.hid (HRB6.out.below hb7 HRB6.out.lt)
  have HG7 := Lib.hid (HG6.out.trans (Gw.of_below hb7))
  clear hb7
  have f0 := HR7.out.c0
  have f1 := HR7.out.c1
  have f2 := HR7.out.c2
  go_wp2_with fail
  refine (rerr p _ _ w7 HP7.out).mono ?_
  rintro x w8 ⟨rfl, rfl⟩
  go_wp2_with (refine store_row (o := ⟨none, _, _, _, _, _⟩) rfl _ _ _ rfl w.heap.size [.int .i64 (K : Int), .int .i64 (n : Int), .string ⟨#[]⟩] (by go_simp) (by go_simp) 51 _ HRB7.out CSZ.out rfl (by intro v hv; simp at hv; rcases hv with rfl | rfl | rfl <;> rfl) ?_; intro w8 hr8 hu8; have HR8 := Lib.hid hr8; have HP8 := Lib.hid (HP7.out.cv HRB7.out hu8); have HG8 := Lib.hid (HG7.out.tail (Nat.le_refl _) hu8); clear hr8 hu8)
  exact bodyPost_ret (results_cell_row rfl _ _ w.heap.size 51 _ _ _ (by go_simp) HR8.out Try.underlying51 rfl CSZ.out) rfl ⟨rfl, HP8.out, HG8.out⟩

set_option maxRecDepth 100000 in
set_option maxHeartbeats 1000000 in
theorem uread_text_err (p : Nat) (l : List UInt8) (e : Int) (w : World) (h : RR w p l e) (K : Nat) (l1 : List UInt8) (hK : (numR 6 l e).1 = K) (hl1 : (numR 6 l e).2.1 = l1) (he1 : (numR 6 l e).2.2 = 0) (hp : partsV (K : Int) = 2) (t : List UInt8) (l2 : List UInt8) (e2 : Int) (hT : (textR 16 l1 0).1 = t) (hl2 : (textR 16 l1 0).2.1 = l2) (he2 : (textR 16 l1 0).2.2 = e2) (hbad : e2 ≠ 0) :
    Calls Try.prog 92 #[.pointer (some ⟨p, 0, none⟩)] w fun x w' => x = .returned (default : Cv).val ∧ RR w' p l2 e2 ∧ Gw p w w' := by
  have HP := Lib.hid h
  have CZ := Lib.hid cv_zero
  have CSZ := Lib.hid cv_size
  have HK := Lib.hid hK
  have HL1 := Lib.hid hl1
  have HE1 := Lib.hid he1
  have HPT := Lib.hid hp
  have hk6 : (K : Int) ≤ 6 := by
    rw [← hK]
    by_cases he : e = 0
    · subst he; exact numR_le (by decide) (Decidable.em _)
    · rw [numR_err he]; exact (by decide : ((0 : Nat) : Int) ≤ 6)
  have hk0 : K ≠ 0 := by intro h0; rw [h0] at hp; exact absurd hp (by decide)
  have bk : ((K : Int) == 0) = false := by simpa using hk0
  have HNM := Lib.hid (show namedV (K : Int) = true by unfold namedV; rw [hp]; decide)
  obtain ⟨s, hs⟩ : ∃ s, str t = s := ⟨_, rfl⟩
  have HT := Lib.hid hT
  have HL2 := Lib.hid hl2
  have HE2 := Lib.hid he2
  have HS := Lib.hid hs
  have htl : t.length ≤ 16 := by
    rw [← hT]
    by_cases h2 : (textR 16 l1 0).2.2 = 0
    · have := (text_back 16 l1 h2).2; omega
    · rw [textR_none h2]; simp
  have hsz : s.size ≤ 16 := by rw [← hs, str_size]; exact htl
  have HFIT := Lib.hid (show Cv.fit ⟨K, 0, s⟩ from cv_fit_of _ _ _ (by omega) (by omega) (by decide) (by decide) (by unfold maxLen; omega))
  have b3 : (e2 == 0) = false := by simpa using hbad
  have b4 : (e2 != 0) = true := by simpa using hbad
  clear hbad hk0 hs
  clear hT hl2 he2 htl
  clear h hK hl1 he1 hp hk6
  go_enter Try.func92, Try.ntmps92
  go_wp2_with (with_reducible refine alloc_row (o := ⟨some 2, _, _, _, _, _⟩) rfl _ rfl _ CZ.out ?_; intro w1 hr1 hb1 hz1; have HR1 := Lib.hid hr1; have HP1 := Lib.hid (HP.out.mono hb1); have HG1 := Lib.hid (show Gw p w w1 from Gw.of_below hb1); have HN1 := Lib.hid (show w.heap.size ≠ p by have := HP.out.lt; omega); clear hr1 hb1 hz1)
  refine (rnumR p 6 l e w1 HP1.out).mono ?_
  rw [HK.out, HL1.out, HE1.out]
  rintro x w2 ⟨rfl, hP2, hu2⟩
  have HP2 := Lib.hid hP2
  have HG2 := Lib.hid (HG1.out.trans (Gw.upd hu2))
  have HR2 := Lib.hid (HR1.out.upd hu2 HN1.out)
  clear hP2 hu2
  go_wp2_with (first
    | (with_reducible refine alloc_row (o := ⟨some 3, _, _, _, _, _⟩) rfl _ rfl _ CZ.out ?_; intro w3 hr3 hb3 hz3; have HR3 := Lib.hid hr3; have HB3 := Lib.hid hb3; have HRA := Lib.hid (HR2.out.below hb3 HR2.out.lt); have HN3 := Lib.hid (show w2.heap.size ≠ p by have := HP2.out.lt; omega); have HNA := Lib.hid (show w.heap.size ≠ w2.heap.size by have := HR2.out.lt; omega); clear hr3 hb3 hz3)
    | (refine store_row (o := ⟨none, _, _, _, _, _⟩) rfl _ _ _ rfl w2.heap.size [.int .i64 (K : Int), .int .i64 0, .string ⟨#[]⟩] (by go_simp) (by go_simp) 51 _ HR3.out CSZ.out rfl (by intro v hv; simp at hv; rcases hv with rfl | rfl | rfl <;> rfl) ?_; intro w4 hr4 hu4; have HR4 := Lib.hid hr4; have HRB := Lib.hid (HRA.out.upd hu4 HNA.out); have HB4 := Lib.hid (HB3.out.trans (hu4.below (Nat.le_refl _))); clear hr4 hu4; have f0 := HR4.out.c0; have f1 := HR4.out.c1; have f2 := HR4.out.c2))
  refine (rerr p _ _ w4 (HP2.out.mono HB4.out)).mono ?_
  rintro x wq ⟨rfl, rfl⟩
  go_wp2_with fail
  refine (unamed _ _).mono ?_
  rw [HNM.out]
  rintro x wq ⟨rfl, rfl⟩
  go_wp2_with fail
  refine (rtextR p 16 l1 0 w4 (HP2.out.mono HB4.out)).mono ?_
  rw [HT.out, HL2.out, HE2.out, HS.out]
  rintro x w5 ⟨rfl, hP5, hu5⟩
  have HP5 := Lib.hid hP5
  have HR5 := Lib.hid (HR4.out.upd hu5 HN3.out)
  have HRB5 := Lib.hid (HRB.out.upd hu5 HN1.out)
  have HG5 := Lib.hid ((HG2.out.trans (Gw.of_below HB4.out)).trans (Gw.upd hu5))
  have HS5 := Lib.hid (show w.heap.size ≤ w2.heap.size from HG2.out.size)
  clear hP5 hu5 f0 f1 f2
  have f0 := HR5.out.c0
  have f1 := HR5.out.c1
  have f2 := HR5.out.c2
  have z1 := HR5.out.frozen 2
  go_wp2_with fail
  obtain ⟨w6, hw6⟩ : ∃ w6, w6 = w5.setCell ⟨w2.heap.size, 2, none⟩ (.string s) := ⟨_, rfl⟩
  rw [← hw6]
  have hu6 : Upd w5 w6 w2.heap.size := by rw [hw6]; exact Upd.setCell _ _ _ _
  have HR6 := Lib.hid (show Row w6 w2.heap.size 51 [.int .i64 (K : Int), .int .i64 0, .string s] by rw [hw6]; exact HR5.out.setV 2 _)
  have HP6 := Lib.hid (HP5.out.cv HR5.out hu6)
  have HRB6 := Lib.hid (HRB5.out.upd hu6 HNA.out)
  have HG6 := Lib.hid (HG5.out.tail HS5.out hu6)
  clear f0 f1 f2 z1 hw6 hu6
  have f0 := HR6.out.c0
  have f1 := HR6.out.c1
  have f2 := HR6.out.c2
  refine (rerr p _ _ w6 HP6.out).mono ?_
  rintro x wq ⟨rfl, rfl⟩
  go_wp2_with fail
  refine (rerr p _ _ w6 HP6.out).mono ?_
  rintro x w8 ⟨rfl, rfl⟩
  go_wp2_with (refine store_row (o := ⟨none, _, _, _, _, _⟩) rfl _ _ _ rfl w.heap.size [.int .i64 0, .int .i64 0, .string ⟨#[]⟩] (by go_simp) (by go_simp) 51 _ HRB6.out CSZ.out rfl (by intro v hv; simp at hv; rcases hv with rfl | rfl | rfl <;> rfl) ?_; intro w8 hr8 hu8; have HR8 := Lib.hid hr8; have HP8 := Lib.hid (HP6.out.cv HRB6.out hu8); have HG8 := Lib.hid (HG6.out.tail (Nat.le_refl _) hu8); clear hr8 hu8)
  exact bodyPost_ret (results_cell_row rfl _ _ w.heap.size 51 _ _ _ (by go_simp) HR8.out Try.underlying51 rfl CSZ.out) rfl ⟨rfl, HP8.out, HG8.out⟩

set_option maxRecDepth 100000 in
set_option maxHeartbeats 1000000 in
theorem uread_text_bad (p : Nat) (l : List UInt8) (e : Int) (w : World) (h : RR w p l e) (K : Nat) (l1 : List UInt8) (hK : (numR 6 l e).1 = K) (hl1 : (numR 6 l e).2.1 = l1) (he1 : (numR 6 l e).2.2 = 0) (hp : partsV (K : Int) = 2) (t : List UInt8) (l2 : List UInt8) (e2 : Int) (hT : (textR 16 l1 0).1 = t) (hl2 : (textR 16 l1 0).2.1 = l2) (he2 : (textR 16 l1 0).2.2 = e2) (he0 : e2 = 0) (hbad : nameV (str t) = false) :
    Calls Try.prog 92 #[.pointer (some ⟨p, 0, none⟩)] w fun x w' => x = .returned (default : Cv).val ∧ RR w' p [] 3 ∧ Gw p w w' := by
  have HP := Lib.hid h
  have CZ := Lib.hid cv_zero
  have CSZ := Lib.hid cv_size
  have HK := Lib.hid hK
  have HL1 := Lib.hid hl1
  have HE1 := Lib.hid he1
  have HPT := Lib.hid hp
  have hk6 : (K : Int) ≤ 6 := by
    rw [← hK]
    by_cases he : e = 0
    · subst he; exact numR_le (by decide) (Decidable.em _)
    · rw [numR_err he]; exact (by decide : ((0 : Nat) : Int) ≤ 6)
  have hk0 : K ≠ 0 := by intro h0; rw [h0] at hp; exact absurd hp (by decide)
  have bk : ((K : Int) == 0) = false := by simpa using hk0
  have HNM := Lib.hid (show namedV (K : Int) = true by unfold namedV; rw [hp]; decide)
  obtain ⟨s, hs⟩ : ∃ s, str t = s := ⟨_, rfl⟩
  have HT := Lib.hid hT
  have HL2 := Lib.hid hl2
  have HE2 := Lib.hid he2
  have HS := Lib.hid hs
  have htl : t.length ≤ 16 := by
    rw [← hT]
    by_cases h2 : (textR 16 l1 0).2.2 = 0
    · have := (text_back 16 l1 h2).2; omega
    · rw [textR_none h2]; simp
  have hsz : s.size ≤ 16 := by rw [← hs, str_size]; exact htl
  have HFIT := Lib.hid (show Cv.fit ⟨K, 0, s⟩ from cv_fit_of _ _ _ (by omega) (by omega) (by decide) (by decide) (by unfold maxLen; omega))
  rw [hs] at hbad
  have HER := Lib.hid (show Cv.err ⟨K, 0, s⟩ = 1 by rw [err_name (K : Int) s hp, hbad]; rfl)
  subst he0
  clear hbad hs hk0
  clear hT hl2 he2 htl
  clear h hK hl1 he1 hp hk6
  go_enter Try.func92, Try.ntmps92
  go_wp2_with (with_reducible refine alloc_row (o := ⟨some 2, _, _, _, _, _⟩) rfl _ rfl _ CZ.out ?_; intro w1 hr1 hb1 hz1; have HR1 := Lib.hid hr1; have HP1 := Lib.hid (HP.out.mono hb1); have HG1 := Lib.hid (show Gw p w w1 from Gw.of_below hb1); have HN1 := Lib.hid (show w.heap.size ≠ p by have := HP.out.lt; omega); clear hr1 hb1 hz1)
  refine (rnumR p 6 l e w1 HP1.out).mono ?_
  rw [HK.out, HL1.out, HE1.out]
  rintro x w2 ⟨rfl, hP2, hu2⟩
  have HP2 := Lib.hid hP2
  have HG2 := Lib.hid (HG1.out.trans (Gw.upd hu2))
  have HR2 := Lib.hid (HR1.out.upd hu2 HN1.out)
  clear hP2 hu2
  go_wp2_with (first
    | (with_reducible refine alloc_row (o := ⟨some 3, _, _, _, _, _⟩) rfl _ rfl _ CZ.out ?_; intro w3 hr3 hb3 hz3; have HR3 := Lib.hid hr3; have HB3 := Lib.hid hb3; have HRA := Lib.hid (HR2.out.below hb3 HR2.out.lt); have HN3 := Lib.hid (show w2.heap.size ≠ p by have := HP2.out.lt; omega); have HNA := Lib.hid (show w.heap.size ≠ w2.heap.size by have := HR2.out.lt; omega); clear hr3 hb3 hz3)
    | (refine store_row (o := ⟨none, _, _, _, _, _⟩) rfl _ _ _ rfl w2.heap.size [.int .i64 (K : Int), .int .i64 0, .string ⟨#[]⟩] (by go_simp) (by go_simp) 51 _ HR3.out CSZ.out rfl (by intro v hv; simp at hv; rcases hv with rfl | rfl | rfl <;> rfl) ?_; intro w4 hr4 hu4; have HR4 := Lib.hid hr4; have HRB := Lib.hid (HRA.out.upd hu4 HNA.out); have HB4 := Lib.hid (HB3.out.trans (hu4.below (Nat.le_refl _))); clear hr4 hu4; have f0 := HR4.out.c0; have f1 := HR4.out.c1; have f2 := HR4.out.c2))
  refine (rerr p _ _ w4 (HP2.out.mono HB4.out)).mono ?_
  rintro x wq ⟨rfl, rfl⟩
  go_wp2_with fail
  refine (unamed _ _).mono ?_
  rw [HNM.out]
  rintro x wq ⟨rfl, rfl⟩
  go_wp2_with fail
  refine (rtextR p 16 l1 0 w4 (HP2.out.mono HB4.out)).mono ?_
  rw [HT.out, HL2.out, HE2.out, HS.out]
  rintro x w5 ⟨rfl, hP5, hu5⟩
  have HP5 := Lib.hid hP5
  have HR5 := Lib.hid (HR4.out.upd hu5 HN3.out)
  have HRB5 := Lib.hid (HRB.out.upd hu5 HN1.out)
  have HG5 := Lib.hid ((HG2.out.trans (Gw.of_below HB4.out)).trans (Gw.upd hu5))
  have HS5 := Lib.hid (show w.heap.size ≤ w2.heap.size from HG2.out.size)
  clear hP5 hu5 f0 f1 f2
  have f0 := HR5.out.c0
  have f1 := HR5.out.c1
  have f2 := HR5.out.c2
  have z1 := HR5.out.frozen 2
  go_wp2_with fail
  obtain ⟨w6, hw6⟩ : ∃ w6, w6 = w5.setCell ⟨w2.heap.size, 2, none⟩ (.string s) := ⟨_, rfl⟩
  rw [← hw6]
  have hu6 : Upd w5 w6 w2.heap.size := by rw [hw6]; exact Upd.setCell _ _ _ _
  have HR6 := Lib.hid (show Row w6 w2.heap.size 51 [.int .i64 (K : Int), .int .i64 0, .string s] by rw [hw6]; exact HR5.out.setV 2 _)
  have HP6 := Lib.hid (HP5.out.cv HR5.out hu6)
  have HRB6 := Lib.hid (HRB5.out.upd hu6 HNA.out)
  have HG6 := Lib.hid (HG5.out.tail HS5.out hu6)
  clear f0 f1 f2 z1 hw6 hu6
  have f0 := HR6.out.c0
  have f1 := HR6.out.c1
  have f2 := HR6.out.c2
  refine (rerr p _ _ w6 HP6.out).mono ?_
  rintro x wq ⟨rfl, rfl⟩
  go_wp2_with fail
  refine (ucheck ⟨K, 0, s⟩ w6 HFIT.out).mono ?_
  rw [HER.out]
  rintro x w7 ⟨rfl, hb7⟩
  have HP7 := Lib.hid (HP6.out.mono hb7)
  have HR7 := Lib.hid (HR6.out.below hb7 HR6.out.lt)
  have HRB7 := Lib.hid (HRB6.out.below hb7 HRB6.out.lt)
  have HG7 := Lib.hid (HG6.out.trans (Gw.of_below hb7))
  clear hb7
  have f0 := HR7.out.c0
  have f1 := HR7.out.c1
  have f2 := HR7.out.c2
  go_wp2_with fail
  refine (rfail p l2 0 3 w7 HP7.out).mono ?_
  rintro x w7' ⟨rfl, hP7', hu7⟩
  rw [failL_three, failE_three] at hP7'
  have HP7' := Lib.hid hP7'
  have HR7' := Lib.hid (HR7.out.upd hu7 HN3.out)
  have HRB7' := Lib.hid (HRB7.out.upd hu7 HN1.out)
  have HG7' := Lib.hid (HG7.out.trans (Gw.upd hu7))
  clear f0 f1 f2 hP7' hu7
  go_wp2_with fail
  refine (rerr p _ _ w7' HP7'.out).mono ?_
  rintro x w8 ⟨rfl, rfl⟩
  go_wp2_with (refine store_row (o := ⟨none, _, _, _, _, _⟩) rfl _ _ _ rfl w.heap.size [.int .i64 0, .int .i64 0, .string ⟨#[]⟩] (by go_simp) (by go_simp) 51 _ HRB7'.out CSZ.out rfl (by intro v hv; simp at hv; rcases hv with rfl | rfl | rfl <;> rfl) ?_; intro w8 hr8 hu8; have HR8 := Lib.hid hr8; have HP8 := Lib.hid (HP7'.out.cv HRB7'.out hu8); have HG8 := Lib.hid (HG7'.out.tail (Nat.le_refl _) hu8); clear hr8 hu8)
  exact bodyPost_ret (results_cell_row rfl _ _ w.heap.size 51 _ _ _ (by go_simp) HR8.out Try.underlying51 rfl CSZ.out) rfl ⟨rfl, HP8.out, HG8.out⟩

set_option maxRecDepth 100000 in
set_option maxHeartbeats 1000000 in
theorem uread_text_ok (p : Nat) (l : List UInt8) (e : Int) (w : World) (h : RR w p l e) (K : Nat) (l1 : List UInt8) (hK : (numR 6 l e).1 = K) (hl1 : (numR 6 l e).2.1 = l1) (he1 : (numR 6 l e).2.2 = 0) (hp : partsV (K : Int) = 2) (t : List UInt8) (l2 : List UInt8) (e2 : Int) (hT : (textR 16 l1 0).1 = t) (hl2 : (textR 16 l1 0).2.1 = l2) (he2 : (textR 16 l1 0).2.2 = e2) (he0 : e2 = 0) (hok : nameV (str t) = true) :
    Calls Try.prog 92 #[.pointer (some ⟨p, 0, none⟩)] w fun x w' => x = .returned (⟨K, 0, str t⟩ : Cv).val ∧ RR w' p l2 0 ∧ Gw p w w' := by
  have HP := Lib.hid h
  have CZ := Lib.hid cv_zero
  have CSZ := Lib.hid cv_size
  have HK := Lib.hid hK
  have HL1 := Lib.hid hl1
  have HE1 := Lib.hid he1
  have HPT := Lib.hid hp
  have hk6 : (K : Int) ≤ 6 := by
    rw [← hK]
    by_cases he : e = 0
    · subst he; exact numR_le (by decide) (Decidable.em _)
    · rw [numR_err he]; exact (by decide : ((0 : Nat) : Int) ≤ 6)
  have hk0 : K ≠ 0 := by intro h0; rw [h0] at hp; exact absurd hp (by decide)
  have bk : ((K : Int) == 0) = false := by simpa using hk0
  have HNM := Lib.hid (show namedV (K : Int) = true by unfold namedV; rw [hp]; decide)
  obtain ⟨s, hs⟩ : ∃ s, str t = s := ⟨_, rfl⟩
  have HT := Lib.hid hT
  have HL2 := Lib.hid hl2
  have HE2 := Lib.hid he2
  have HS := Lib.hid hs
  have htl : t.length ≤ 16 := by
    rw [← hT]
    by_cases h2 : (textR 16 l1 0).2.2 = 0
    · have := (text_back 16 l1 h2).2; omega
    · rw [textR_none h2]; simp
  have hsz : s.size ≤ 16 := by rw [← hs, str_size]; exact htl
  have HFIT := Lib.hid (show Cv.fit ⟨K, 0, s⟩ from cv_fit_of _ _ _ (by omega) (by omega) (by decide) (by decide) (by unfold maxLen; omega))
  rw [hs] at hok ⊢
  have HER := Lib.hid (show Cv.err ⟨K, 0, s⟩ = 0 by rw [err_name (K : Int) s hp, hok]; rfl)
  subst he0
  clear hok hs hk0
  clear hT hl2 he2 htl
  clear h hK hl1 he1 hp hk6
  go_enter Try.func92, Try.ntmps92
  go_wp2_with (with_reducible refine alloc_row (o := ⟨some 2, _, _, _, _, _⟩) rfl _ rfl _ CZ.out ?_; intro w1 hr1 hb1 hz1; have HR1 := Lib.hid hr1; have HP1 := Lib.hid (HP.out.mono hb1); have HG1 := Lib.hid (show Gw p w w1 from Gw.of_below hb1); have HN1 := Lib.hid (show w.heap.size ≠ p by have := HP.out.lt; omega); clear hr1 hb1 hz1)
  refine (rnumR p 6 l e w1 HP1.out).mono ?_
  rw [HK.out, HL1.out, HE1.out]
  rintro x w2 ⟨rfl, hP2, hu2⟩
  have HP2 := Lib.hid hP2
  have HG2 := Lib.hid (HG1.out.trans (Gw.upd hu2))
  have HR2 := Lib.hid (HR1.out.upd hu2 HN1.out)
  clear hP2 hu2
  go_wp2_with (first
    | (with_reducible refine alloc_row (o := ⟨some 3, _, _, _, _, _⟩) rfl _ rfl _ CZ.out ?_; intro w3 hr3 hb3 hz3; have HR3 := Lib.hid hr3; have HB3 := Lib.hid hb3; have HRA := Lib.hid (HR2.out.below hb3 HR2.out.lt); have HN3 := Lib.hid (show w2.heap.size ≠ p by have := HP2.out.lt; omega); have HNA := Lib.hid (show w.heap.size ≠ w2.heap.size by have := HR2.out.lt; omega); clear hr3 hb3 hz3)
    | (refine store_row (o := ⟨none, _, _, _, _, _⟩) rfl _ _ _ rfl w2.heap.size [.int .i64 (K : Int), .int .i64 0, .string ⟨#[]⟩] (by go_simp) (by go_simp) 51 _ HR3.out CSZ.out rfl (by intro v hv; simp at hv; rcases hv with rfl | rfl | rfl <;> rfl) ?_; intro w4 hr4 hu4; have HR4 := Lib.hid hr4; have HRB := Lib.hid (HRA.out.upd hu4 HNA.out); have HB4 := Lib.hid (HB3.out.trans (hu4.below (Nat.le_refl _))); clear hr4 hu4; have f0 := HR4.out.c0; have f1 := HR4.out.c1; have f2 := HR4.out.c2))
  refine (rerr p _ _ w4 (HP2.out.mono HB4.out)).mono ?_
  rintro x wq ⟨rfl, rfl⟩
  go_wp2_with fail
  refine (unamed _ _).mono ?_
  rw [HNM.out]
  rintro x wq ⟨rfl, rfl⟩
  go_wp2_with fail
  refine (rtextR p 16 l1 0 w4 (HP2.out.mono HB4.out)).mono ?_
  rw [HT.out, HL2.out, HE2.out, HS.out]
  rintro x w5 ⟨rfl, hP5, hu5⟩
  have HP5 := Lib.hid hP5
  have HR5 := Lib.hid (HR4.out.upd hu5 HN3.out)
  have HRB5 := Lib.hid (HRB.out.upd hu5 HN1.out)
  have HG5 := Lib.hid ((HG2.out.trans (Gw.of_below HB4.out)).trans (Gw.upd hu5))
  have HS5 := Lib.hid (show w.heap.size ≤ w2.heap.size from HG2.out.size)
  clear hP5 hu5 f0 f1 f2
  have f0 := HR5.out.c0
  have f1 := HR5.out.c1
  have f2 := HR5.out.c2
  have z1 := HR5.out.frozen 2
  go_wp2_with fail
  obtain ⟨w6, hw6⟩ : ∃ w6, w6 = w5.setCell ⟨w2.heap.size, 2, none⟩ (.string s) := ⟨_, rfl⟩
  rw [← hw6]
  have hu6 : Upd w5 w6 w2.heap.size := by rw [hw6]; exact Upd.setCell _ _ _ _
  have HR6 := Lib.hid (show Row w6 w2.heap.size 51 [.int .i64 (K : Int), .int .i64 0, .string s] by rw [hw6]; exact HR5.out.setV 2 _)
  have HP6 := Lib.hid (HP5.out.cv HR5.out hu6)
  have HRB6 := Lib.hid (HRB5.out.upd hu6 HNA.out)
  have HG6 := Lib.hid (HG5.out.tail HS5.out hu6)
  clear f0 f1 f2 z1 hw6 hu6
  have f0 := HR6.out.c0
  have f1 := HR6.out.c1
  have f2 := HR6.out.c2
  refine (rerr p _ _ w6 HP6.out).mono ?_
  rintro x wq ⟨rfl, rfl⟩
  go_wp2_with fail
  refine (ucheck ⟨K, 0, s⟩ w6 HFIT.out).mono ?_
  rw [HER.out]
  rintro x w7 ⟨rfl, hb7⟩
  have HP7 := Lib.hid (HP6.out.mono hb7)
  have HR7 := Lib.hid (HR6.out.below hb7 HR6.out.lt)
  have HRB7 := Lib.hid (HRB6.out.below hb7 HRB6.out.lt)
  have HG7 := Lib.hid (HG6.out.trans (Gw.of_below hb7))
  clear hb7
  have f0 := HR7.out.c0
  have f1 := HR7.out.c1
  have f2 := HR7.out.c2
  go_wp2_with fail
  refine (rerr p _ _ w7 HP7.out).mono ?_
  rintro x w8 ⟨rfl, rfl⟩
  go_wp2_with (refine store_row (o := ⟨none, _, _, _, _, _⟩) rfl _ _ _ rfl w.heap.size [.int .i64 (K : Int), .int .i64 0, .string s] (by go_simp) (by go_simp) 51 _ HRB7.out CSZ.out rfl (by intro v hv; simp at hv; rcases hv with rfl | rfl | rfl <;> rfl) ?_; intro w8 hr8 hu8; have HR8 := Lib.hid hr8; have HP8 := Lib.hid (HP7.out.cv HRB7.out hu8); have HG8 := Lib.hid (HG7.out.tail (Nat.le_refl _) hu8); clear hr8 hu8)
  exact bodyPost_ret (results_cell_row rfl _ _ w.heap.size 51 _ _ _ (by go_simp) HR8.out Try.underlying51 rfl CSZ.out) rfl ⟨rfl, HP8.out, HG8.out⟩

theorem uread_any (p : Nat) (l : List UInt8) (e : Int) (w : World) (h : RR w p l e) :
    Calls Try.prog 92 #[.pointer (some ⟨p, 0, none⟩)] w fun x w' => x = .returned (readS l e).1.val ∧ RR w' p (readS l e).2.1 (readS l e).2.2 ∧ Gw p w w' := by
  by_cases h1 : (numR 6 l e).2.2 = 0
  · have e0 : readS l e = readK ((numR 6 l e).1 : Int) (numR 6 l e).2.1 := by unfold readS; rw [if_neg (by simp [h1])]
    rw [e0]
    unfold readK
    rcases parts_ne ((numR 6 l e).1 : Int) with hp | hp | hp
    · rw [if_neg (by rw [hp]; decide), if_neg (by rw [hp]; decide)]
      have hk6 : ((numR 6 l e).1 : Int) ≤ 6 := by
        by_cases he : e = 0
        · subst he; exact numR_le (by decide) (Decidable.em _)
        · rw [numR_err he]; exact (by decide : ((0 : Nat) : Int) ≤ 6)
      have hz := parts_zero _ hp
      exact uread_zero p l e w h _ _ _ rfl rfl rfl h1 (by omega)
    · rw [if_neg (by rw [hp]; decide), if_pos hp]
      by_cases h2 : (numR (mostV ((numR 6 l e).1 : Int)) (numR 6 l e).2.1 0).2.2 = 0
      · rw [if_neg (by simp [h2])]
        have := uread_num_ok p l e w h _ _ rfl rfl h1 hp _ _ _ rfl rfl rfl h2
        rw [h2] at this
        exact this
      · rw [if_pos h2]
        exact uread_num_bad p l e w h _ _ rfl rfl h1 hp _ _ _ rfl rfl rfl h2
    · rw [if_pos hp]
      by_cases h2 : (textR 16 (numR 6 l e).2.1 0).2.2 = 0
      · rw [if_neg (by simp [h2])]
        rcases h3 : nameV (str (textR 16 (numR 6 l e).2.1 0).1) with _ | _
        · rw [if_neg (by decide)]
          exact uread_text_bad p l e w h _ _ rfl rfl h1 hp _ _ _ rfl rfl rfl h2 h3
        · rw [if_pos rfl]
          exact uread_text_ok p l e w h _ _ rfl rfl h1 hp _ _ _ rfl rfl rfl h2 h3
      · rw [if_pos h2]
        exact uread_text_err p l e w h _ _ rfl rfl h1 hp _ _ _ rfl rfl rfl h2
  · have e0 : readS l e = (default, (numR 6 l e).2.1, (numR 6 l e).2.2) := by unfold readS; rw [if_pos h1]
    rw [e0]
    exact uread_err p l e w h _ _ _ rfl rfl rfl h1

end Go.Proofs.Ytmacjpgeamlmhaa.W

namespace Go.Proofs.Ytmacjpgeamlmhaa.W
open Go Go.ChangeShapes Go.WideShapes Go.ChangeAt Go.RowKit

def NB (cs : List Value) : Prop := ∀ x : UInt8, B x ∉ cs
theorem NB_cells (L : List Cv) : NB (cells L) := by
  intro x hx
  obtain ⟨c, -, hc⟩ := List.mem_flatMap.1 hx
  simp [Cv.cells, B] at hc
theorem NB_append {a b : List Value} (ha : NB a) (hb : NB b) : NB (a ++ b) := fun x hx => (List.mem_append.1 hx).elim (ha x) (hb x)
theorem NB_take {a : List Value} (h : NB a) (n : Nat) : NB (a.take n) := fun x hx => h x (List.mem_of_mem_take hx)
theorem NB_drop {a : List Value} (h : NB a) (n : Nat) : NB (a.drop n) := fun x hx => h x (List.mem_of_mem_drop hx)
theorem NB_zeros (n : Nat) : NB (Builtin.zeroCells (Value.agg #[.int .i64 0, .int .i64 0, .string ⟨#[]⟩]).cells n).toList := by
  intro x hx
  simp [Builtin.zeroCells, Value.cells] at hx
  obtain ⟨i, -, h⟩ := hx
  have h3 : i % 3 = 0 ∨ i % 3 = 1 ∨ i % 3 = 2 := by omega
  rcases h3 with h3 | h3 | h3 <;> (rw [h3] at h; simp [B] at h)

/-- caveats that the call owns, in a row without a byte -/
def FrN (w : World) (base : Nat) (v : Value) (L : List Cv) : Prop := (v = .slice none 0 0 ∧ L = []) ∨
  ∃ g cap cur, v = .slice (some ⟨g, 0, none⟩) L.length cap ∧ base ≤ g ∧ w.heap[g]? = some (.cells cur 51 (0, 0)) ∧ L.length ≤ cap ∧ cap ≤ maxLen ∧ cur.size = cap * 3 ∧ cur.toList.take (L.length * 3) = cells L ∧ NB cur.toList
theorem FrN.frc {w : World} {base : Nat} {v : Value} {L : List Cv} (h : FrN w base v L) : FrC w base v L := by
  rcases h with ⟨rfl, rfl⟩ | ⟨g, cap, cur, rfl, hg, hh, h1, h2, h3, h4, -⟩
  · exact FrC.nil _ _
  · exact ⟨by rw [cells_len], .inr ⟨g, cap, cur, rfl, hg, hh, h1, h2, h3, h4⟩⟩
theorem FrN.nil (w : World) (base : Nat) : FrN w base (.slice none 0 0) [] := .inl ⟨rfl, rfl⟩
theorem FrN.base {w : World} {base base' : Nat} {v : Value} {L : List Cv} (h : FrN w base v L) (hb : base' ≤ base) : FrN w base' v L := by
  rcases h with h | ⟨g, cap, cur, hv, hg, r⟩
  · exact .inl h
  · exact .inr ⟨g, cap, cur, hv, Nat.le_trans hb hg, r⟩
theorem FrN.kept {w w' : World} {base : Nat} {v : Value} {L : List Cv} (h : FrN w base v L) (hb : Below w.heap.size w w') : FrN w' base v L := by
  rcases h with h | ⟨g, cap, cur, hv, hg, hh, r⟩
  · exact .inl h
  · exact .inr ⟨g, cap, cur, hv, hg, by rw [hb.block g (Array.getElem?_eq_some_iff.1 hh).1]; exact hh, r⟩
/-- they stay where a reader is written -/
theorem FrN.rp {w w' : World} {base p : Nat} {v : Value} {L : List Cv} {l : List UInt8} {e : Int} (h : FrN w base v L) (hp : RP w p l e) (hu : Gw p w w') : FrN w' base v L := by
  rcases h with h | ⟨g, cap, cur, hv, hg, hh, r⟩
  · exact .inl h
  · obtain ⟨a2, cap2, hh2, -⟩ := hp.ex
    have hgp : g ≠ p := by
      rintro rfl
      rw [hh] at hh2
      simp at hh2
    exact .inr ⟨g, cap, cur, hv, hg, by rw [hu.block g (Array.getElem?_eq_some_iff.1 hh).1 hgp]; exact hh, r⟩
theorem FrN.rr {w w' : World} {base p : Nat} {v : Value} {L : List Cv} {l : List UInt8} {e : Int} (h : FrN w base v L) (hp : RR w p l e) (hu : Gw p w w') : FrN w' base v L := by
  rcases h with h | ⟨g, cap, cur, hv, hg, hh, r⟩
  · exact .inl h
  · obtain ⟨a2, cap2, hh2, -⟩ := hp.ex
    have hgp : g ≠ p := by
      rintro rfl
      rw [hh] at hh2
      simp at hh2
    exact .inr ⟨g, cap, cur, hv, hg, by rw [hu.block g (Array.getElem?_eq_some_iff.1 hh).1 hgp]; exact hh, r⟩
/-- a reader stays where they alone are written -/
theorem RP.own {w w' : World} {p base : Nat} {v : Value} {L : List Cv} {l : List UInt8} {e : Int} (h : RP w p l e) (hv : FrN w base v L) (hg : w.grownBy w' v.ownBlock) : RP w' p l e := by
  rcases hv with ⟨rfl, -⟩ | ⟨g, cap, cur, rfl, -, hh, -, -, -, -, hnb⟩
  · exact h.mono ⟨hg.os, hg.tape, hg.output, hg.size, fun k hk => hg.block k hk (by simp [Value.ownBlock])⟩
  · have hlt := h.lt
    obtain ⟨a, c, hh2, hr⟩ := h.ex
    have hgp : p ≠ g := by
      rintro rfl
      rw [hh] at hh2
      simp at hh2
    have hgw : Gw g w w' := ⟨hg.os, hg.tape, hg.output, hg.size, fun k hk hkg => hg.block k hk (by simp [Value.ownBlock]; exact hkg)⟩
    exact ⟨⟨a, c, by rw [hgw.block p hlt hgp]; exact hh2, hr.gwp hgw (hr.apart hh (fun x hx => hnb x hx))⟩, h.small, h.hnone⟩
theorem RR.own {w w' : World} {p base : Nat} {v : Value} {L : List Cv} {l : List UInt8} {e : Int} (h : RR w p l e) (hv : FrN w base v L) (hg : w.grownBy w' v.ownBlock) : RR w' p l e := by
  rcases hv with ⟨rfl, -⟩ | ⟨g, cap, cur, rfl, -, hh, -, -, -, -, hnb⟩
  · exact h.mono ⟨hg.os, hg.tape, hg.output, hg.size, fun k hk => hg.block k hk (by simp [Value.ownBlock])⟩
  · have hlt := h.lt
    obtain ⟨a, c, hh2, hr⟩ := h.ex
    have hgp : p ≠ g := by
      rintro rfl
      rw [hh] at hh2
      simp at hh2
    have hgw : Gw g w w' := ⟨hg.os, hg.tape, hg.output, hg.size, fun k hk hkg => hg.block k hk (by simp [Value.ownBlock]; exact hkg)⟩
    exact ⟨⟨a, c, by rw [hgw.block p hlt hgp]; exact hh2, hr.gwp hgw (hr.apart hh (fun x hx => hnb x hx))⟩, h.small, h.hnone⟩

/-- APPEND of caveats to what the call owns, the row without a byte. -/
theorem append_frn {w : World} {ops : Array Oper} {rest : List Oper} {o : Oper} {a : Act} {Q : Exit → Act → World → Prop} (hgd : o.guard = none) (s x : Operand)
    (ho : o.op = .call { callee := .builtin .append, args := #[s, x], argTypes := #[22, 22] })
    (base : Nat) (v : Value) (L : List Cv) (hs : a.eval s = v) (hown : FrN w base v L)
    (ad : Addr) (m c : Nat) (M : List Cv) (hx : a.eval x = .slice (some ad) m c) (hr : Cvs w (some ad) m c M) (hm0 : 0 < m) (hmax : L.length + m ≤ 1000000) (hbase : base ≤ w.heap.size)
    (h : ∀ v' w', FrN w' base v' (L ++ M) → Below base w w' → w.grownBy w' v.ownBlock → wpList Try.prog ops Q rest (a.put o.dst v') w') : wpList Try.prog ops Q (o :: rest) a w := by
  obtain ⟨i0, hi, hz0, hz1, hz2⟩ := info_parts infoCv
  have hlM := hr.hlen
  have hnl : (cells M).length = m * i0.size := by rw [hz1, cells_len, hlM]
  have hnews : ∀ j u, (cells M)[j]? = some u → w.cell? (ad.add j) = some u := by
    intro j u hj
    have hj' : j < M.length * 3 := by
      have := (List.getElem?_eq_some_iff.1 hj).1; rwa [cells_len] at this
    obtain ⟨b, off, e, -, hc⟩ := hr.hcells.resolve_left (by omega)
    obtain rfl : ad = ⟨b, off, none⟩ := by simpa using e
    have hq : j = j / 3 * 3 + j % 3 := by omega
    have := hc (j / 3) (by omega) (j % 3) u (by rw [← cells_at M (j / 3) (j % 3) (by omega) (by omega), ← hq]; exact hj)
    rw [Go.WideShapes.add_plain]
    rw [show off + j = off + j / 3 * 3 + j % 3 by omega]
    exact this
  have hll : (L ++ M).length = L.length + m := by rw [List.length_append, hlM]
  have hge := fun old => grownCap_ge w (L.length + m) old 51
  have hcm := fun old => grownCap_le_maxLen w (L.length + m) old 51 (by unfold maxLen; omega)
  have fresh : ∀ (old : Nat), FrN (w.drew.alloc (.cells ((cells L).toArray ++ (cells M).toArray ++ Builtin.zeroCells (Value.agg #[.int .i64 0, .int .i64 0, .string ⟨#[]⟩]).cells (grownCap w (L.length + m) old 51 - (L.length + m))) 51)) base (.slice (some ⟨w.heap.size, 0, none⟩) (L.length + m) (grownCap w (L.length + m) old 51)) (L ++ M) := by
    intro old
    refine .inr ⟨w.heap.size, _, _, by rw [hll], hbase, heap_alloc_new w.drew _, by rw [hll]; exact hge old, hcm old, ?_, ?_, ?_⟩
    · have := hge old
      simp only [Array.size_append, List.size_toArray, size_zeroCells, cells_len, hlM]
      simp [Value.cells]
      omega
    · simp only [Array.toList_append, List.append_assoc]
      rw [← List.append_assoc, ← cells_append]
      exact List.take_left' (by rw [cells_len])
    · simp only [Array.toList_append, List.append_assoc]
      exact NB_append (NB_cells L) (NB_append (NB_cells M) (NB_zeros _))
  rcases hown with ⟨rfl, rfl⟩ | ⟨g, cap, cur, rfl, hg, hh, hlc, hm, hcs, ht, hnb⟩
  · have hrun := run_append_nil (P := Try.prog) w 22 o.type 51 i0 _ Try.underlying22 hi hz0 ad m c (cells M) hnl hnews hm0 (by omega) (by rw [hz2]; simp at hmax; omega)
    have hf := fresh 0
    simp only [List.length_nil, Nat.zero_add, List.nil_append, show cells [] = [] from rfl] at hf hmax
    refine wpList_plain hgd fun K hK => ?_
    unfold Oper.wp
    simp [execOp, ho, resolve, invoke, builtin, hs, hx, hrun, Result.andThen]
    refine hK _ _ (h _ _ (by simpa using hf) ((Below.refl _ _).drew.alloc (by simpa using hbase) _) ⟨rfl, rfl, rfl, by simp, fun k hk _ => heap_alloc_old w.drew _ hk⟩)
  · by_cases hroom : L.length + m ≤ cap
    · have hrun := run_append_room (P := Try.prog) w 22 o.type 51 i0 Try.underlying22 hi g L.length cap cur hh ad m c (cells M) hnl hnews (cells_one M) hroom (by rw [hz1, cells_len, hcs, hlM]; omega)
      refine wpList_plain hgd fun K hK => ?_
      unfold Oper.wp
      simp [execOp, ho, resolve, invoke, builtin, hs, hx, hrun, Result.andThen]
      rw [← hll]
      refine hK _ _ (h _ _ (.inr ⟨g, cap, _, rfl, hg, setRow_heap w g _ _ _ _ hh, by rw [hll]; exact hroom, hm, ?_, ?_, ?_⟩) ((Upd.setRow w g _).below hg) ⟨rfl, rfl, rfl, by simp, fun k _ hk => setRow_other w g k _ (fun e => hk (by simp [Value.ownBlock, e]))⟩)
      · simp [hz1, cells_len, hlM]; omega
      · rw [cells_append]
        simp only [hz1, ht]
        rw [← List.append_assoc]
        exact List.take_left' (by rw [List.length_append, cells_len, cells_len, List.length_append]; omega)
      · exact NB_append (NB_take hnb _) (NB_append (NB_cells M) (NB_drop hnb _))
    · have holds : ∀ j u, (cells L)[j]? = some u → w.cell? ((⟨g, 0, none⟩ : Addr).add j) = some u := by
        intro j u hu
        have hj : j < L.length * 3 := by have := (List.getElem?_eq_some_iff.1 hu).1; rwa [cells_len] at this
        rw [Go.WideShapes.add_plain, Nat.zero_add, cell_of_row w g j cur 51 _ hh]
        rw [← ht, List.getElem?_take, if_pos hj] at hu
        simpa using hu
      have hrun := run_append_grow (P := Try.prog) w 22 o.type 51 i0 _ Try.underlying22 hi hz0 ⟨g, 0, none⟩ L.length cap (cells L) (by rw [hz1, cells_len]) holds ad m c (cells M) hnl hnews (by omega) (by omega) (growslice_fits (by omega) (by rw [hz2]; omega))
      refine wpList_plain hgd fun K hK => ?_
      unfold Oper.wp
      simp [execOp, ho, resolve, invoke, builtin, hs, hx, hrun, Result.andThen]
      refine hK _ _ (h _ _ (by simpa using fresh cap) ((Below.refl _ _).drew.alloc (by simpa using hbase) _) ⟨rfl, rfl, rfl, by simp, fun k hk _ => heap_alloc_old w.drew _ hk⟩)

end Go.Proofs.Ytmacjpgeamlmhaa.W

namespace Go.Proofs.Ytmacjpgeamlmhaa.W
open Go.ChangeShapes Go.WideShapes Go.ChangeAt Go.RowKit

theorem Gw.on {w0 w w' : World} {p : Nat} (h : Gw p w0 w) (hb : Below w0.heap.size w w') : Gw p w0 w' :=
  ⟨hb.os.trans h.os, hb.tape.trans h.tape, hb.output.trans h.output, Nat.le_trans h.size hb.size, fun k hk hp => (hb.block k hk).trans (h.block k hk hp)⟩
theorem rdN_snoc (n : Nat) (l : List UInt8) (e : Int) : (rdN n l e).1 ++ [(readS (rdN n l e).2.1 (rdN n l e).2.2).1] = (rdN (n + 1) l e).1 := rfl

/-- what reading a list answers -/
def allR (l : List UInt8) (e : Int) : List Cv × List UInt8 × Int :=
  if (rdN (numR 8 l e).1 (numR 8 l e).2.1 (numR 8 l e).2.2).2.2 ≠ 0 then ([], (rdN (numR 8 l e).1 (numR 8 l e).2.1 (numR 8 l e).2.2).2) else rdN (numR 8 l e).1 (numR 8 l e).2.1 (numR 8 l e).2.2

set_option maxRecDepth 100000 in
set_option maxHeartbeats 1000000 in
theorem uall_read (p : Nat) (l : List UInt8) (e : Int) (w : World) (h : RR w p l e) :
    Calls Try.prog 56 #[.pointer (some ⟨p, 0, none⟩)] w fun x w' => ∃ v, x = .returned v ∧ FrN w' w.heap.size v (allR l e).1 ∧ RR w' p (allR l e).2.1 (allR l e).2.2 ∧ Gw p w w' := by
  have HPP := Lib.hid h
  obtain ⟨K, hK⟩ : ∃ K, (numR 8 l e).1 = K := ⟨_, rfl⟩
  obtain ⟨l1, hl1⟩ : ∃ l1, (numR 8 l e).2.1 = l1 := ⟨_, rfl⟩
  obtain ⟨e1, he1⟩ : ∃ e1, (numR 8 l e).2.2 = e1 := ⟨_, rfl⟩
  have hk8 : (K : Int) ≤ 8 := by
    rw [← hK]
    by_cases he : e = 0
    · subst he; exact numR_le (by decide) (Decidable.em _)
    · rw [numR_err he]; exact (by decide : ((0 : Nat) : Int) ≤ 8)
  have hpv : allR l e = if (rdN K l1 e1).2.2 ≠ 0 then ([], (rdN K l1 e1).2) else rdN K l1 e1 := by
    unfold allR; rw [hK, hl1, he1]
  obtain ⟨AL, hAL⟩ : ∃ AL, (allR l e).1 = AL := ⟨_, rfl⟩
  obtain ⟨A2, hA2⟩ : ∃ A2, (allR l e).2 = A2 := ⟨_, rfl⟩
  rw [hAL, hA2]
  rw [hpv] at hAL hA2
  have HAL := Lib.hid hAL
  have HA2 := Lib.hid hA2
  have HK := Lib.hid hK
  have HL1 := Lib.hid hl1
  have HE1 := Lib.hid he1
  obtain ⟨i0, hi0, hz0, hz1, -⟩ := info_parts infoCv
  have HI0 := Lib.hid hi0
  have HZ0 := Lib.hid hz0
  have HZ1 := Lib.hid hz1
  clear h hK hl1 he1 hpv hAL hA2 hi0 hz0 hz1
  go_enter Try.func56, Try.ntmps56
  go_wp2_with fail
  refine (rnumR p 8 l e w HPP.out).mono ?_
  rw [HK.out, HL1.out, HE1.out]
  rintro x w2 ⟨rfl, hP2, hu2⟩
  have HP2 := Lib.hid hP2
  have HB2 := Lib.hid (Gw.upd hu2)
  clear hP2 hu2
  go_wp2_with fail
  go_loopw [3, 5] (fun v i wr => ∃ n : Nat, i = .int .i64 (n : Int) ∧ n ≤ K ∧ Hid (FrN wr w.heap.size v (rdN n l1 e1).1) ∧ Hid (RR wr p (rdN n l1 e1).2.1 (rdN n l1 e1).2.2) ∧ Hid (Gw p w wr)) (fun _ i _ => K - (intOf i).toNat)
  case atStart => exact ⟨0, rfl, Nat.zero_le _, Lib.hid (FrN.nil _ _), HP2, HB2⟩
  case round =>
    obtain ⟨n, rfl, hn, HF, HP, HB⟩ := hrel
    by_cases hlt : n < K ∧ (rdN n l1 e1).2.2 = 0
    · obtain ⟨hlt, he0⟩ := hlt
      have hfit := readS_fit (rdN n l1 e1).2.1 (rdN n l1 e1).2.2
      obtain ⟨c, hc⟩ : ∃ c, (readS (rdN n l1 e1).2.1 (rdN n l1 e1).2.2).1 = c := ⟨_, rfl⟩
      rw [hc] at hfit
      have hsn := rdN_snoc n l1 e1
      rw [hc] at hsn
      have HSN := Lib.hid hsn
      have hst : (rdN (n + 1) l1 e1).2 = (readS (rdN n l1 e1).2.1 (rdN n l1 e1).2.2).2 := rfl
      have HST := Lib.hid hst
      have HC := Lib.hid hc
      have HLN := Lib.hid (rdN_len l1 e1 n)
      obtain ⟨kind, num, name⟩ := c
      have HFIT := Lib.hid hfit
      have HE0 := Lib.hid he0
      clear hfit hc hsn hst he0
      go_wp2_with (go_at_call 59; refine (rerr p _ _ wr HP.out).mono ?_; rw [HE0.out]; rintro x wq ⟨rfl, rfl⟩)
      refine (uread_any p (rdN n l1 e1).2.1 (rdN n l1 e1).2.2 wr HP.out).mono ?_
      rw [HC.out, ← HST.out]
      rintro x w3 ⟨rfl, hP3, hg3⟩
      have HP3 := Lib.hid hP3
      have HF3 := Lib.hid (HF.out.rr HP.out hg3)
      have HB3 := Lib.hid (HB.out.trans hg3)
      clear hP3 hg3
      unfold Cv.val
      go_wp2_with (first
        | (refine wpList_buildSlice rfl 22 51 1 _ rfl #[.int .i64 kind, .int .i64 num, .string name] i0 _ Try.underlying22 HI0.out HZ0.out (by rw [HZ1.out]; decide) (by rw [HZ1.out]; decide) (by rw [HZ1.out]; go_simp) ?_)
        | (at_builtin; refine append_frn rfl _ _ rfl w.heap.size _ _ rfl (HF3.out.kept ((Below.refl _ _).alloc (Nat.le_refl _) _)) _ _ _ [⟨kind, num, name⟩] rfl (cvs_new w3 ⟨kind, num, name⟩ HFIT.out) (by decide) (by rw [HLN.out]; omega) (by have := HB3.out.size; simp; omega) ?_; intro v5 w5 hf5 hb5 hg5; rw [HSN.out] at hf5; have HF5 := Lib.hid hf5; have HP5 := Lib.hid ((HP3.out.mono ((Below.refl _ _).alloc (Nat.le_refl _) _)).own (HF3.out.kept ((Below.refl _ _).alloc (Nat.le_refl _) _)) hg5); have HB5 := Lib.hid ((HB3.out.trans (Gw.of_below ((Below.refl _ _).alloc (Nat.le_refl _) _))).on hb5); clear hf5 hb5 hg5))
      go_roundw
      case rel => exact ⟨n + 1, vint (by omega), by omega, HF5, HP5, HB5⟩
      case measure => simp [intOf]; omega
    · have hE : (rdN K l1 e1).2 = (rdN n l1 e1).2 := by
        by_cases hlt2 : n < K
        · have hne : (rdN n l1 e1).2.2 ≠ 0 := fun h0 => hlt ⟨hlt2, h0⟩
          have := rdN_stuck l1 e1 n hne (K - n)
          rw [show n + (K - n) = K by omega] at this
          exact this
        · rw [show K = n by omega]
      have hL : (rdN n l1 e1).2.2 = 0 → (rdN K l1 e1).1 = (rdN n l1 e1).1 := by
        intro h0
        have : ¬ n < K := fun h1 => hlt ⟨h1, h0⟩
        rw [show K = n by omega]
      have hA2' := HA2.out
      have hAL' := HAL.out
      rw [hE] at hA2' hAL'
      by_cases hz : (rdN n l1 e1).2.2 = 0
      · have hKn : n = K := by
          by_cases h1 : n < K
          · exact absurd ⟨h1, hz⟩ hlt
          · omega
        rw [if_neg (by simp [hz])] at hA2' hAL'
        rw [hL hz] at hAL'
        rw [hE] at hA2'
        have HQ := Lib.hid hz
        have HAL2 := Lib.hid hAL'
        have HA22 := Lib.hid hA2'
        have b3 : ((n : Int) < (K : Int)) = False := by simp; omega
        clear hz hlt hE hL hA2' hAL' hKn
        go_wp2_with (go_at_call 59; refine (rerr p _ _ wr HP.out).mono ?_; rw [HQ.out]; rintro x wq ⟨rfl, rfl⟩)
        go_ret
        exact ⟨_, rfl, by rw [← HAL2.out]; exact HF.out, by rw [← HA22.out]; exact HP.out, HB.out⟩
      · rw [if_pos hz] at hA2' hAL'
        have HAL2 := Lib.hid hAL'
        have HA22 := Lib.hid hA2'
        obtain ⟨E, hE2⟩ : ∃ E, (rdN n l1 e1).2.2 = E := ⟨_, rfl⟩
        rw [hE2] at hz
        have HE2 := Lib.hid hE2
        have b3 : (E == 0) = false := by simpa using hz
        have b4 : (E != 0) = true := by simpa using hz
        clear hz hlt hE hL hA2' hAL' hE2
        go_wp2_with (go_at_call 59; refine (rerr p _ _ wr HP.out).mono ?_; rw [HE2.out]; rintro x wq ⟨rfl, rfl⟩)
        all_goals
          go_ret
          exact ⟨_, rfl, by rw [← HAL2.out]; exact FrN.nil _ _, by rw [← HA22.out]; exact HP.out, HB.out⟩

theorem parse_all (b : List UInt8) : parseV b = if endV (allR b 0).2.1 (allR b 0).2.2 ≠ 0 then ([], endV (allR b 0).2.1 (allR b 0).2.2) else ((allR b 0).1, 0) := by
  unfold parseV allR
  by_cases h : (rdN (numR 8 b 0).1 (numR 8 b 0).2.1 (numR 8 b 0).2.2).2.2 = 0
  · rw [if_neg (c := (rdN (numR 8 b 0).1 (numR 8 b 0).2.1 (numR 8 b 0).2.2).2.2 ≠ 0) (by simp [h])]
  · rw [if_pos (c := (rdN (numR 8 b 0).1 (numR 8 b 0).2.1 (numR 8 b 0).2.2).2.2 ≠ 0) h]
    simp only
    have he : endV (rdN (numR 8 b 0).1 (numR 8 b 0).2.1 (numR 8 b 0).2.2).2.1 (rdN (numR 8 b 0).1 (numR 8 b 0).2.1 (numR 8 b 0).2.2).2.2 ≠ 0 := by
      intro h0; exact h (endV_zero h0).1
    rw [if_pos he, if_pos he]


end Go.Proofs.Ytmacjpgeamlmhaa.W
