/- CONTRACTS of layer 3 (sha): what a sum begins with, the reference's constants, and a block, of both. -/
import Derived.Test.YtkfhppbmnjmnoaaGreatDoorShaR
import Derived.Test.YtkfhppbmnjmnoaaGreatDoorShaP
set_option linter.unusedSimpArgs false
set_option linter.unusedVariables false
namespace Go.Proofs.YtkfhppbmnjmnoaaGreatDoor.W
open Go.ChangeShapes Go.WideShapes Go.ChangeAt Go.RowKit
open Go.Proofs.YtkfhppbmnjmnoaaGreatDoor.P

theorem size8 : (Tryz.prog.info? 77).map (·.size) = some 8 := by kernel_rfl
theorem zero8 : (Tryz.prog.info? 77).map (·.zero) = some (some (.agg ((List.replicate 8 (0 : UInt32)).map U).toArray)) := by kernel_rfl


set_option maxRecDepth 100000 in
theorem start_any (w : World) : Calls Tryz.prog 93 #[] w fun e w' => e = .returned (.agg (H0.map U).toArray) ∧ Below w.heap.size w w' := by
  go_enter Tryz.func93, Tryz.ntmps93
  have HS := Lib.hid (show (Tryz.prog.info? 77).map (·.size) = some (H0.map U).length from size8)
  have HO := Lib.hid (show ((List.replicate 8 (0 : UInt32)).map U).length = (H0.map U).length from rfl)
  go_wp2_with (first
    | (with_reducible refine alloc_row rfl _ rfl _ zero8 ?_; intro w1 hr1 hb1 hz1; have HR1 := Lib.hid hr1; clear hr1 hz1)
    | (refine build_row (o := ⟨some 1, .build _ _, _, _, _, _⟩) rfl _ _ rfl (H0.map U) (by kernel_rfl) ?_)
    | (with_reducible refine store_row rfl _ _ _ rfl _ _ rfl rfl 77 _ HR1.out HS.out HO.out (U_one _) ?_; intro w2 hr2 hu2))
  refine bodyPost_ret (results_cell_row rfl _ _ w.heap.size 77 (H0.map U).toArray _ (.array 8 76) rfl hr2 Tryz.underlying77 rfl HS.out) rfl ⟨rfl, ?_⟩
  exact hb1.trans (hu2.below (Nat.le_refl _))

set_option maxRecDepth 100000 in
theorem rstart_any (w : World) : Calls Tryz.prog 55 #[] w fun e w' => e = .returned (.agg (H0.map U).toArray) ∧ Below w.heap.size w w' := by
  go_enter Tryz.func55, Tryz.ntmps55
  have HS := Lib.hid (show (Tryz.prog.info? 77).map (·.size) = some (H0.map U).length from size8)
  have HO := Lib.hid (show ((List.replicate 8 (0 : UInt32)).map U).length = (H0.map U).length from rfl)
  go_wp2_with (first
    | (with_reducible refine alloc_row rfl _ rfl _ zero8 ?_; intro w1 hr1 hb1 hz1; have HR1 := Lib.hid hr1; clear hr1 hz1)
    | (refine build_row (o := ⟨some 1, .build _ _, _, _, _, _⟩) rfl _ _ rfl (H0.map U) (by kernel_rfl) ?_)
    | (with_reducible refine store_row rfl _ _ _ rfl _ _ rfl rfl 77 _ HR1.out HS.out HO.out (U_one _) ?_; intro w2 hr2 hu2))
  refine bodyPost_ret (results_cell_row rfl _ _ w.heap.size 77 (H0.map U).toArray _ (.array 8 76) rfl hr2 Tryz.underlying77 rfl HS.out) rfl ⟨rfl, ?_⟩
  exact hb1.trans (hu2.below (Nat.le_refl _))
set_option maxRecDepth 100000 in
theorem rconst_any (w : World) : Calls Tryz.prog 80 #[] w fun e w' => e = .returned (.agg (Kc.map U).toArray) ∧ Below w.heap.size w w' := by
  go_enter Tryz.func80, Tryz.ntmps80
  have HS := Lib.hid (show (Tryz.prog.info? 99).map (·.size) = some (Kc.map U).length from size64)
  have HO := Lib.hid (show ((List.replicate 64 (0 : UInt32)).map U).length = (Kc.map U).length from rfl)
  go_wp2_with (first
    | (with_reducible refine alloc_row rfl _ rfl _ zero64 ?_; intro w1 hr1 hb1 hz1; have HR1 := Lib.hid hr1; clear hr1 hz1)
    | (refine build_row (o := ⟨some 1, .build _ _, _, _, _, _⟩) rfl _ _ rfl (Kc.map U) (by kernel_rfl) ?_)
    | (with_reducible refine store_row rfl _ _ _ rfl _ _ rfl rfl 99 _ HR1.out HS.out HO.out (U_one _) ?_; intro w2 hr2 hu2))
  refine bodyPost_ret (results_cell_row rfl _ _ w.heap.size 99 (Kc.map U).toArray _ (.array 64 76) rfl hr2 Tryz.underlying99 rfl HS.out) rfl ⟨rfl, ?_⟩
  exact hb1.trans (hu2.below (Nat.le_refl _))

/-- the package's constants read as they were laid -/
def Ks (w : World) : Prop := 0 < w.heap.size ∧ ∀ j v, (Kc.map U)[j]? = some v → w.cell? ⟨0, j, none⟩ = some v
theorem Ks.below {w w' : World} (h : Ks w) {base : Nat} (hb : Below base w w') (h0 : 0 < base) : Ks w' := by
  refine ⟨?_, fun j v hj => by rw [hb.cell (p := ⟨0, j, none⟩) h0]; exact h.2 j v hj⟩
  rcases Nat.eq_zero_or_pos w'.heap.size with h1 | h1
  · have h2 := hb.cell (p := ⟨0, 0, none⟩) h0
    rw [h.2 0 (U 1116352408) rfl] at h2
    simp [World.cell?, h1] at h2
  · exact h1
theorem Ks.pos {w : World} (h : Ks w) : 0 < w.heap.size := h.1
theorem Ks.drewN {w : World} (h : Ks w) (n : Nat) : Ks (w.drewN n) := h

theorem rs_succ (h : List UInt32) (b : List UInt8) (k : Nat) : rs h b (k + 1) = rnd (rs h b k) (Kc.getD k 0) ((ws b).getD k 0) := rfl
theorem Kc_len : Kc.length = 64 := rfl

set_option maxRecDepth 100000 in
set_option maxHeartbeats 4000000 in
theorem block_any (h : List UInt32) (b : List UInt8) (hh : h.length = 8) (hb : b.length = 64) (w : World) (hK : Ks w) : Calls Tryz.prog 94 #[.agg (h.map U).toArray, .agg (b.map B).toArray] w fun e w' => e = .returned (.agg ((blk h b).map U).toArray) ∧ Below w.heap.size w w' := by
  have HB := Lib.hid hb
  have HBL := Lib.hid (show (Tryz.prog.info? 79).map (·.size) = some (b.map B).length by rw [List.length_map, hb]; exact size64b)
  have HH := Lib.hid hh
  have HK := Lib.hid hK
  clear hh hb hK
  go_enter Tryz.func94, Tryz.ntmps94
  go_wp2_with (first
    | (with_reducible refine box_row (o := ⟨some 2, _, _, _, _, _⟩) rfl _ _ rfl (h.map U) rfl ?_; intro w1 hr1 hb1 hz1; have HR1 := Lib.hid hr1; clear hr1; have HZ1 := Lib.hid hz1; clear hz1)
    | (with_reducible refine box_row (o := ⟨some 3, _, _, _, _, _⟩) rfl _ _ rfl (b.map B) rfl ?_; intro w2 hr2 hb2 hz2; have HR2 := Lib.hid hr2; clear hr2; have HZ2 := Lib.hid hz2; clear hz2)
    | (with_reducible refine alloc_row (o := ⟨some 4, _, _, _, _, _⟩) rfl _ rfl _ zero8 ?_; intro w3 hr3 hb3 hz3; have HR3 := Lib.hid hr3; clear hr3; have HZ3 := Lib.hid hz3; clear hz3
       have HR1 := Lib.hid ((HR1.out.below hb2 (by have := HZ1.out; omega)).below hb3 (by have := HZ1.out; have := HZ2.out; omega)); have HR2 := Lib.hid (HR2.out.below hb3 (by have := HZ2.out; omega))
       have hbl : Below w.heap.size w w3 := (hb1.trans (hb2.mono (by have := HZ1.out; omega))).trans (hb3.mono (by have := HZ1.out; have := HZ2.out; omega)))
    | (with_reducible refine load_row (o := ⟨some 20, _, _, _, _, _⟩) rfl _ _ rfl _ rfl 79 _ (.array 64 5) HR2.out Tryz.underlying79 rfl HBL.out ?_)
    | (go_at_call 103; refine (words_any b HB.out _).mono ?_; rintro e w4 ⟨rfl, hb4⟩; have HR1 := Lib.hid (HR1.out.below hb4 (by have := HZ1.out; have := HZ2.out; have := HZ3.out; omega)); have HR3 := Lib.hid (HR3.out.below hb4 (by have := HZ3.out; omega)))
    | (with_reducible refine alloc_row (o := ⟨some 5, _, _, _, _, _⟩) rfl _ rfl _ zero16 ?_; intro w5 hr5 hb5 hz5; have HR5 := Lib.hid hr5; clear hr5; have HZ5 := Lib.hid hz5; clear hz5
       have hsz4 := hb4.size
       have HZ4 := Lib.hid hsz4; clear hsz4
       have HR1 := Lib.hid (HR1.out.below hb5 (by have := HZ1.out; have := HZ2.out; have := HZ3.out; have := HZ4.out; omega)); have HR3 := Lib.hid (HR3.out.below hb5 (by have := HZ3.out; have := HZ4.out; omega))
       have HS := Lib.hid (show (Tryz.prog.info? 121).map (·.size) = some ((words16 b).map U).length by rw [List.length_map, words16_len]; exact size16)
       have HO := Lib.hid (show ((List.replicate 16 (0 : UInt32)).map U).length = ((words16 b).map U).length by rw [List.length_map, List.length_map, words16_len]; rfl))
    | (with_reducible refine store_row (o := ⟨none, .store 121 _ _, _, _, _, _⟩) rfl _ _ _ rfl _ _ rfl rfl 121 _ HR5.out HS.out HO.out (U_one _) ?_; intro w6 hr6 hu6; have HR6 := Lib.hid hr6; clear hr6))
  have hgg : w.heap.size < w1.heap.size ∧ w1.heap.size < w2.heap.size ∧ w2.heap.size < w4.heap.size := by have := HZ1.out; have := HZ2.out; have := HZ3.out; have := HZ4.out; omega
  have HR1 := Lib.hid (HR1.out.upd hu6 (by omega))
  have HR3 := Lib.hid (HR3.out.upd hu6 (by omega))
  have hbl6 : Below w.heap.size w w6 := ((hbl.trans (hb4.mono (by have := HZ3.out; omega))).trans (hb5.mono (by omega))).trans (hu6.below (by omega))
  clear hb1 hb2 hb3 hb4 hb5 hbl hu6 HR2 HR5 HZ1 HZ2 HZ3 HZ4 HZ5 HS HO
  generalize w1.heap.size = gb at *
  generalize w2.heap.size = gr at *
  generalize w4.heap.size = gm at *
  have HGG := Lib.hid hgg
  clear hgg
  have c0 := HR1.out.cell 0 0 (by rw [HH.out]; omega)
  have c1 := HR1.out.cell 0 1 (by rw [HH.out]; omega)
  have c2 := HR1.out.cell 0 2 (by rw [HH.out]; omega)
  have c3 := HR1.out.cell 0 3 (by rw [HH.out]; omega)
  have c4 := HR1.out.cell 0 4 (by rw [HH.out]; omega)
  have c5 := HR1.out.cell 0 5 (by rw [HH.out]; omega)
  have c6 := HR1.out.cell 0 6 (by rw [HH.out]; omega)
  have c7 := HR1.out.cell 0 7 (by rw [HH.out]; omega)
  obtain ⟨s0, hs0⟩ : ∃ s, rs h b 0 = s := ⟨_, rfl⟩
  have HS0 := Lib.hid hs0
  have e0 : h.getD 0 0 = s0.p := by rw [← hs0]; rfl
  have e1 : h.getD 1 0 = s0.q := by rw [← hs0]; rfl
  have e2 : h.getD 2 0 = s0.r := by rw [← hs0]; rfl
  have e3 : h.getD 3 0 = s0.s := by rw [← hs0]; rfl
  have e4 : h.getD 4 0 = s0.t := by rw [← hs0]; rfl
  have e5 : h.getD 5 0 = s0.u := by rw [← hs0]; rfl
  have e6 : h.getD 6 0 = s0.v := by rw [← hs0]; rfl
  have e7 : h.getD 7 0 = s0.w := by rw [← hs0]; rfl
  rw [e0] at c0
  rw [e1] at c1
  rw [e2] at c2
  rw [e3] at c3
  rw [e4] at c4
  rw [e5] at c5
  rw [e6] at c6
  rw [e7] at c7
  unfold U at c0 c1 c2 c3 c4 c5 c6 c7
  clear hs0 e0 e1 e2 e3 e4 e5 e6 e7
  go_wp2_with fail
  go_quiet (fail)
  clear c0 c1 c2 c3 c4 c5 c6 c7
  have HK6 := Lib.hid ((HK.out.below hbl6 HK.out.pos).drewN nq)
  have HR1 := Lib.hid (HR1.out.drewN nq)
  have HR3 := Lib.hid (HR3.out.drewN nq)
  have HR6 := Lib.hid (HR6.out.drewN nq)
  have hbl7 := below_drewN hbl6 nq
  clear hbl6
  generalize w6.drewN nq = w7 at *
  obtain ⟨KK, hKK⟩ : ∃ KK, KK = Kc := ⟨_, rfl⟩
  have HKC : Hid (∀ j v, (KK.map U)[j]? = some v → w7.cell? ⟨0, 0 + j, none⟩ = some v) := Lib.hid (fun j v hj => by rw [Nat.zero_add]; rw [hKK] at hj; exact HK6.out.2 j v hj)
  have HSK := Lib.hid (show (Tryz.prog.info? 99).map (·.size) = some (KK.map U).length by rw [hKK]; exact size64)
  have HKL := Lib.hid (show KK.length = 64 by rw [hKK]; rfl)
  have HKE := Lib.hid hKK
  clear hKK
  go_wp2_with (with_reducible refine load_cells (o := ⟨some 38, _, _, _, _, _⟩) rfl _ _ rfl 0 0 rfl (KK.map U) (.array 64 76) HKC.out Tryz.underlying99 rfl HSK.out ?_)
  obtain ⟨W, hW⟩ : ∃ W, W = ws b := ⟨_, rfl⟩
  have HW := Lib.hid hW
  clear hW
  go_loopw [6, 7, 8, 9, 10, 11, 12, 13, 39] (fun a1 a2 a3 a4 a5 a6 a7 a8 i wr => ∃ k : Nat, ∃ s : S8, i = .int .i64 k ∧ k ≤ 64 ∧ Hid (rs h b k = s) ∧ a1 = .int .u32 s.p.toNat ∧ a2 = .int .u32 s.q.toNat ∧ a3 = .int .u32 s.r.toNat ∧ a4 = .int .u32 s.s.toNat ∧ a5 = .int .u32 s.t.toNat ∧ a6 = .int .u32 s.u.toNat ∧ a7 = .int .u32 s.v.toNat ∧ a8 = .int .u32 s.w.toNat ∧ Hid (Row wr gm 121 ((win b k).map U)) ∧ Hid (Row wr gr 77 ((List.replicate 8 0).map U)) ∧ Hid (Row wr w.heap.size 77 (h.map U)) ∧ Below w.heap.size w wr) (fun _ _ _ _ _ _ _ _ i _ => 64 - (intOf i).toNat)
  case atStart => exact ⟨0, s0, rfl, by omega, HS0, rfl, rfl, rfl, rfl, rfl, rfl, rfl, rfl, HR6, HR3, HR1, hbl7⟩
  case round =>
    obtain ⟨k, s, rfl, hk, HS, rfl, rfl, rfl, rfl, rfl, rfl, rfl, rfl, HM, HRR, HRH, hbr⟩ := hrel
    by_cases hlt : k < 64
    · have hc := HM.out.cell 0 0 (by rw [win_len]; omega)
      rw [win_get b k hlt, ← HW.out] at hc
      obtain ⟨kk, hkk⟩ : ∃ x, KK.getD k 0 = x := ⟨_, rfl⟩
      have HKK := Lib.hid hkk
      obtain ⟨p, q, r, s1, t, u, v, x⟩ := s
      unfold U at hc
      clear hkk
      obtain ⟨m0, hm0⟩ : ∃ x, W.getD k 0 = x := ⟨_, rfl⟩
      rw [hm0] at hc
      have HM0 := Lib.hid hm0
      clear hm0
      go_wp2_with (with_reducible refine index_row rfl _ _ _ rfl U 0 KK rfl k rfl 64 76 .u32 Tryz.underlying99 Tryz.underlying76 sizeU HKL.out hlt ?_; rw [HKK.out, show U kk = .int .u32 (kk.toNat : Int) from rfl])
      go_quiet ((first | (go_at_call 104; exact Calls.quiet_of_same (sw (bB_any _ _))) | (go_at_call 105; exact Calls.quiet_of_same (sw (ch_any _ _ _ _)))))
      obtain ⟨X, hX⟩ : ∃ X, x + bB t + ch t u v + kk + m0 = X := ⟨_, rfl⟩
      have iX : (((x.toNat : Int) + (bB t).toNat + (ch t u v).toNat + kk.toNat) % 4294967296 + m0.toNat) % 4294967296 = (X.toNat : Int) := by
        rw [← hX]; simp only [UInt32.toNat_add]; omega
      rw [iX]
      obtain ⟨Y, hY⟩ : ∃ Y, bA p + maj p q r = Y := ⟨_, rfl⟩
      have hnx : rs h b (k + 1) = ⟨X + Y, p, q, r, s1 + X, t, u, v⟩ := by
        rw [rs_succ, HS.out, ← HKE.out, HKK.out, ← HW.out, HM0.out, ← hX, ← hY]; rfl
      obtain ⟨x1, hx1⟩ : ∃ x1, X + Y = x1 := ⟨_, rfl⟩
      obtain ⟨x5, hx5⟩ : ∃ x5, s1 + X = x5 := ⟨_, rfl⟩
      rw [hx1, hx5] at hnx
      have iY : IntKind.u32.wrap (((bA p).toNat : Int) + ((maj p q r).toNat : Int)) = (Y.toNat : Int) := by rw [i_add, hY]
      have i1 : IntKind.u32.wrap ((X.toNat : Int) + (Y.toNat : Int)) = (x1.toNat : Int) := by rw [i_add, hx1]
      have i5 : IntKind.u32.wrap ((s1.toNat : Int) + (X.toNat : Int)) = (x5.toNat : Int) := by rw [i_add, hx5]
      rw [IntKind.wrap_u32'] at iY i1 i5
      have HNX := Lib.hid hnx
      have HM' := Lib.hid (HM.out.drewN nq)
      have HRR' := Lib.hid (HRR.out.drewN nq)
      have HRH' := Lib.hid (HRH.out.drewN nq)
      have hbr' := below_drewN hbr nq
      clear iX hnx hX hY hx1 hx5 hc HM HRR HRH hbr HM0 HKK
      generalize wr.drewN nq = wq at *
      have HWL := Lib.hid (show (Tryz.prog.info? 121).map (·.size) = some ((win b k).map U).length by rw [List.length_map, win_len]; exact size16)
      obtain ⟨wn, hwn⟩ : ∃ wn, win b k = wn := ⟨_, rfl⟩
      have HWN : Hid (nx wn = win b (k + 1)) := by rw [← hwn]; exact Lib.hid (win_next b k)
      have HN16 := Lib.hid (show wn.length = 16 by rw [← hwn, win_len])
      rw [hwn] at HM' HWL
      clear hwn
      obtain ⟨wm, hwm⟩ : ∃ wm, nx wn = wm := ⟨_, rfl⟩
      have HWM := Lib.hid hwm
      have HML : wm.length = 16 := by rw [← hwm, HWN.out, win_len]
      have HS2 := Lib.hid (show (Tryz.prog.info? 121).map (·.size) = some (wm.map U).length by rw [List.length_map, HML]; exact size16)
      have HO2 := Lib.hid (show (wn.map U).length = (wm.map U).length by rw [List.length_map, List.length_map, HML, HN16.out])
      clear hwm HML
      go_wp2_with (first
        | (go_at_call 106; refine (bA_any _ _).mono ?_; rintro e w' ⟨rfl, rfl⟩)
        | (go_at_call 107; refine (maj_any _ _ _ _).mono ?_; rintro e w' ⟨rfl, rfl⟩)
        | (with_reducible refine load_row (o := ⟨some 75, _, _, _, _, _⟩) rfl _ _ rfl _ rfl 121 _ (.array 16 76) HM'.out Tryz.underlying121 rfl HWL.out ?_)
        | (go_at_call 108; refine (next_any wn HN16.out _).mono ?_; rintro e w9 ⟨rfl, hb9⟩; rw [HWM.out]
           have HM9 := Lib.hid (HM'.out.below hb9 HM'.out.lt)
           have HRR9 := Lib.hid (HRR'.out.below hb9 HRR'.out.lt)
           have HRH9 := Lib.hid (HRH'.out.below hb9 HRH'.out.lt))
        | (with_reducible refine store_row (o := ⟨none, .store 121 _ _, _, _, _, _⟩) rfl _ _ _ rfl _ _ rfl rfl 121 _ HM9.out HS2.out HO2.out (U_one _) ?_; intro w10 hr10 hu10))
      go_roundw
      case rel =>
        have hg := HGG.out
        have hs9 := hb9.size
        have hsq := hbr'.size
        refine ⟨k + 1, _, by go_num, by omega, HNX, rfl, rfl, rfl, rfl, rfl, rfl, rfl, rfl, ?_, Lib.hid (HRR9.out.upd hu10 (by omega)), Lib.hid (HRH9.out.upd hu10 (by omega)), (hbr'.trans (hb9.mono hsq)).trans (hu10.below (by omega))⟩
        rw [← HWN.out, HWM.out]; exact Lib.hid hr10
      case measure => simp [intOf]; omega
    · obtain rfl : k = 64 := by omega
      obtain ⟨sl, hsl⟩ : ∃ sl, s.list = sl := ⟨_, rfl⟩
      have hsl8 : sl.length = 8 := by rw [← hsl]; rfl
      have hsv : sl.map U = [.int .u32 s.p.toNat, .int .u32 s.q.toNat, .int .u32 s.r.toNat, .int .u32 s.s.toNat, .int .u32 s.t.toNat, .int .u32 s.u.toNat, .int .u32 s.v.toNat, .int .u32 s.w.toNat] := by rw [← hsl]; rfl
      have HSL := Lib.hid hsl
      have HBU := Lib.hid (show Tryz.prog.built 77 [(0, .int .u32 s.p.toNat), (1, .int .u32 s.q.toNat), (2, .int .u32 s.r.toNat), (3, .int .u32 s.s.toNat), (4, .int .u32 s.t.toNat), (5, .int .u32 s.u.toNat), (6, .int .u32 s.v.toNat), (7, .int .u32 s.w.toNat)] = some (sl.map U).toArray by rw [hsv]; kernel_rfl)
      have HSL8 := Lib.hid hsl8
      have HM0 := Lib.hid (show Row wr w.heap.size 77 ((mixd h sl 0).map U) by rw [mixd_zero]; exact HRH.out)
      clear hsl hsl8 hsv
      go_wp2_with (refine build_row (o := ⟨some 86, .build _ _, _, _, _, _⟩) rfl _ _ rfl (sl.map U) (by go_simp; with_reducible exact HBU.out) ?_)
      have HBR := Lib.hid hbr
      clear hbr HBU
      go_loopw [87] (fun i wv => ∃ n : Nat, i = .int .i64 n ∧ n ≤ 8 ∧ Hid (Row wv w.heap.size 77 ((mixd h sl n).map U)) ∧ Hid (Row wv gr 77 ((List.replicate 8 0).map U)) ∧ Hid (Below w.heap.size w wv)) (fun i _ => 8 - (intOf i).toNat)
      case atStart => exact ⟨0, rfl, by omega, HM0, HRR, HBR⟩
      case round =>
        obtain ⟨n, rfl, hn, HMX, HRV, HBV⟩ := hrel
        by_cases hn8 : n < 8
        · have hc := HMX.out.cell 0 n (by rw [mixd_len _ _ _ HH.out HSL8.out hn]; exact hn8)
          rw [mixd_get _ _ _ HH.out HSL8.out hn8] at hc
          have hf := HMX.out.frozen n
          have hset := HMX.out.set n (h.getD n 0 + sl.getD n 0)
          rw [mixd_set _ _ _ HH.out HSL8.out hn8] at hset
          obtain ⟨a0, ha0⟩ : ∃ x, h.getD n 0 = x := ⟨_, rfl⟩
          obtain ⟨b0, hb0⟩ : ∃ x, sl.getD n 0 = x := ⟨_, rfl⟩
          obtain ⟨c0, hc0⟩ : ∃ x, a0 + b0 = x := ⟨_, rfl⟩
          rw [ha0] at hc
          rw [ha0, hb0, hc0] at hset
          have iadd : ((a0.toNat : Int) + (b0.toNat : Int)) % 4294967296 = (c0.toNat : Int) := by rw [← hc0, UInt32.toNat_add]; omega
          have HSET := Lib.hid hset
          have HB0 := Lib.hid hb0
          have hr2 := HRV.out.upd (Upd.setCell wr w.heap.size n (U c0)) (by have := HGG.out; omega)
          have hb2 := HBV.out.trans ((Upd.setCell wr w.heap.size n (U c0)).below (Nat.le_refl _))
          have HR2' := Lib.hid hr2
          have HB2 := Lib.hid hb2
          unfold U at hc
          clear hset ha0 hb0 hc0 hr2 hb2
          go_wp2_with (with_reducible refine index_row rfl _ _ _ rfl U 0 sl rfl n rfl 8 76 .u32 Tryz.underlying77 Tryz.underlying76 sizeU HSL8.out hn8 ?_; rw [HB0.out, show U b0 = .int .u32 (b0.toNat : Int) from rfl])
          go_roundw
          case rel => exact ⟨n + 1, by go_num, by omega, HSET, HR2', HB2⟩
          case measure => simp [intOf]; omega
        · obtain rfl : n = 8 := by omega
          have hmx := HMX.out
          rw [mixd_full _ _ HH.out HSL8.out] at hmx
          obtain ⟨L8, hL8⟩ : ∃ x, List.zipWith (· + ·) h sl = x := ⟨_, rfl⟩
          rw [hL8] at hmx
          have hl : L8.length = 8 := by rw [← hL8]; simp [HH.out, HSL8.out]
          have HMX' := Lib.hid hmx
          have HL8 := Lib.hid hL8
          have HLS := Lib.hid (show (Tryz.prog.info? 77).map (·.size) = some (L8.map U).length by rw [List.length_map, hl]; exact size8)
          have HLO := Lib.hid (show ((List.replicate 8 (0 : UInt32)).map U).length = (L8.map U).length by rw [List.length_map, List.length_map, hl]; rfl)
          clear hmx hL8 hl
          go_wp2_with (first | (with_reducible refine load_row rfl _ _ rfl _ rfl 77 _ (.array 8 76) HMX'.out Tryz.underlying77 rfl HLS.out ?_) | (with_reducible refine store_row rfl _ _ _ rfl _ _ rfl rfl 77 _ HRV.out HLS.out HLO.out (U_one _) ?_; intro w5 hr5 hu5))
          have HS2 : (Tryz.prog.info? 77).map (·.size) = some (L8.map U).toArray.size := by rw [List.size_toArray]; exact HLS.out
          refine bodyPost_ret (results_cell_row rfl _ _ gr 77 (L8.map U).toArray _ (.array 8 76) rfl hr5 Tryz.underlying77 rfl HS2) rfl ⟨?_, ?_⟩
          · rw [← HL8.out, ← HSL.out, ← HS.out]; rfl
          · exact HBV.out.trans (hu5.below (by have := HGG.out; omega))
end Go.Proofs.YtkfhppbmnjmnoaaGreatDoor.W
