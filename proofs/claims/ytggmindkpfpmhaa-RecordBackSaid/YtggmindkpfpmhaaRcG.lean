/- LAYER 11 (record): Decode of the reference. -/
import Derived.Test.YtggmindkpfpmhaaRcF
import Derived.Test.YtggmindkpfpmhaaRcU
set_option linter.unusedSimpArgs false
set_option linter.unusedVariables false
namespace Go.Proofs.Ytggmindkpfpmhaa.W
open Go Go.ChangeShapes Go.WideShapes Go.ChangeAt Go.RowKit
open Go.Proofs.Ytggmindkpfpmhaa.P (enc dec)

theorem decV_err {F : RF} {l : List UInt8} {e : Int} (h : e ≠ 0) : decV (F, l, e) = (RF.z 0, e) := by
  unfold decV
  dsimp only
  rw [endE h, failN h, if_neg h]
  split <;> rfl
set_option maxRecDepth 100000 in
set_option maxHeartbeats 16000000 in
theorem udec0 (a : Option Addr) (n c : Nat) (l : List UInt8) (w : World) (h : Rd w a n c l) (hm : n ≤ 140737488355000) (k : Nat) (l1 : List UInt8) (e1 : Int) (h0 : numR 4 l 0 = (k, l1, e1)) (hk : k ≠ 1 ∧ k ≠ 2 ∧ k ≠ 3 ∧ k ≠ 4) (F : RF) (v : Int) (hD : decV (rdK k l1 e1) = (F, v)) :
    Calls Try.prog 18 #[.slice a n c] w fun x w' => ∃ ea en ec a' n' c', x = .returned (.tuple #[.agg (F.rc ea en ec a' n' c').cells.toArray, .int .i64 v]) ∧ Rd w' ea en ec F.dt ∧ Rd w' a' n' c' F.sn ∧ Below w.heap.size w w' := by
  have HL := Lib.hid h
  have H0 := Lib.hid h0
  have RZ := Lib.hid rc_zero
  have RS := Lib.hid rc_size
  clear h h0
  have hK : rdK k l1 e1 = (RF.z k, l1, e1) := by unfold rdK; rw [if_neg hk.1, if_neg hk.2.1, if_neg hk.2.2.1, if_neg hk.2.2.2]
  rw [hK] at hD
  have k1 : (((k : Int)) == 1) = false := by simp; omega
  have k2 : (((k : Int)) == 2) = false := by simp; omega
  have k3 : (((k : Int)) == 3) = false := by simp; omega
  have k4 : (((k : Int)) == 4) = false := by simp; omega
  clear hk hK
  go_enter Try.func18, Try.ntmps18
  go_wp2_with (first
    | ((with_reducible refine alloc_row (o := ⟨some 2, _, _, _, _, _⟩) rfl _ rfl _ RZ.out ?_); intro w1 hr1 hb1 hz1; have Z1 := Lib.hid hr1; have B1 := Lib.hid hb1; clear hr1 hb1 hz1)
    | (go_at_call 20; refine (ropen a n c l w1 (HL.out.mono B1.out) hm).mono ?_; rintro x w0 ⟨p, rfl, hp0, hp2, hb2⟩; have P0 := Lib.hid hp2; have PG := Lib.hid (show w.heap.size < p from Nat.lt_of_lt_of_le Z1.out.lt hp0); have Z0 := Lib.hid (Z1.out.below hb2 Z1.out.lt); have B0 := Lib.hid (B1.out.trans (hb2.mono B1.out.size)); clear hp0 hp2 hb2)
    | (go_at_call 54; (with_reducible refine (rnumR p 4 l 0 w0 P0.out).mono ?_); rw [H0.out]; rintro x w2 ⟨rfl, hp, hu⟩; have P2 := Lib.hid hp; have Z2 := Lib.hid (Z0.out.upd hu (by have := PG.out; omega)); have B2 := Lib.hid (B0.out.trans (hu.below (Nat.le_of_lt PG.out))); clear hp hu)
    | ((with_reducible refine build_row (o := ⟨some 11, _, _, _, _, _⟩) rfl _ _ rfl (Rc.z k).cells ?_ ?_); (focus (go_simp; exact built_k _)))
    | ((with_reducible refine alloc_row (o := ⟨some 5, _, _, _, _, _⟩) rfl _ rfl _ RZ.out ?_); intro w3 hr3 hb3 hz3; have E3 := Lib.hid hr3; have GC := Lib.hid (show w.heap.size < w2.heap.size ∧ p < w2.heap.size from ⟨Z2.out.lt, P2.out.lt⟩); have GS := Lib.hid (show w.heap.size ≤ w2.heap.size from B2.out.size); have Z3 := Lib.hid (Z2.out.below hb3 Z2.out.lt); have P3 := Lib.hid (P2.out.mono hb3); have B3 := Lib.hid (B2.out.trans (hb3.mono B2.out.size)); clear hr3 hb3 hz3)
    | ((with_reducible refine store_row (o := ⟨none, _, _, _, _, _⟩) rfl _ (.tmp 5) _ rfl w2.heap.size (Rc.z k).cells ?_ ?_ 26 _ E3.out ?_ ?_ ?_ ?_); (focus go_simp); (focus (first | (go_simp; done) | (go_simp; rfl))); (focus (exact RS.out)); (focus rfl); (focus (exact rc_one _)); intro w4 hr4 hu4; have E4 := Lib.hid hr4; have Z4 := Lib.hid (Z3.out.upd hu4 (by have := PG.out; have := GC.out; omega)); have P4 := Lib.hid (P3.out.put (by have := PG.out; have := GC.out; omega) E3.out (NB_rc _) hu4); have B4 := Lib.hid (B3.out.trans (hu4.below GS.out)); have c0 := (show w4.cell? ⟨w2.heap.size, 0, none⟩ = some (.int .i64 (k : Int)) from hr4.q10.1); have E9 := E4; have Z9 := Z4; have P9 := P4; have B9 := B4; clear hr4 hu4))
  obtain ⟨F0, hF0⟩ : ∃ x, RF.z (k : Int) = x := ⟨_, rfl⟩
  obtain ⟨ea, en, ec, a', n', c', E9, D9, S9⟩ : ∃ ea en ec a' n' c', Hid (Row (w4) w2.heap.size 26 (RF.rc F0 ea en ec a' n' c').cells) ∧ Hid (Rd (w4) ea en ec F0.dt) ∧ Hid (Rd (w4) a' n' c' F0.sn) := by rw [← hF0]; exact ⟨none, 0, 0, none, 0, 0, E9, Lib.hid (Rd_nil _), Lib.hid (Rd_nil _)⟩
  rw [hF0] at hD
  clear hF0
  obtain ⟨W9, hW9⟩ : ∃ x, w4 = x := ⟨_, rfl⟩
  rw [hW9] at E9 D9 S9 P9 Z9 B9 ⊢
  clear hW9 c0 k1 k2 k3 k4
  have NE := Lib.hid (show w2.heap.size ≠ w.heap.size by have := GC.out; omega)
  obtain ⟨x0, x1, x2, x3, x4, x5, x6, x7, x8, x9⟩ := E9.out.q10
  by_cases he : e1 = 0
  · rw [he] at hD P9
    refine (rerr p l1 0 W9 P9.out).mono ?_
    rintro x w' ⟨rfl, rfl⟩
    obtain ⟨ck, hck⟩ : ∃ x, chkF F0 = x := ⟨_, rfl⟩
    have HCK := Lib.hid hck
    have h01 := chkF01 F0
    rw [hck] at h01
    unfold decV at hD
    dsimp only at hD
    rw [hck] at hD
    clear hck
    rcases h01 with rfl | rfl
    · by_cases hev : endV l1 0 = 0
      · rw [if_pos rfl, if_pos hev] at hD
        obtain ⟨rfl, rfl⟩ := Prod.mk.inj hD
        have HEV := Lib.hid hev
        clear hev hD
        go_wp2_with (first
          | (go_at_call 14; refine (ucheckR (F0.rc ea en ec a' n' c') F0.dt F0.sn W9 D9.out S9.out).mono ?_; rw [chk_eq _ _ _ S9.out.hlen, chkF_of D9.out S9.out, HCK.out]; rintro x w6 ⟨rfl, hb6⟩; have E6 := Lib.hid (E9.out.below hb6 E9.out.lt); have D6 := Lib.hid (D9.out.mono hb6); have S6 := Lib.hid (S9.out.mono hb6); have P6 := Lib.hid (P9.out.mono hb6); have Z6 := Lib.hid (Z9.out.below hb6 Z9.out.lt); have B6 := Lib.hid (B9.out.trans (hb6.mono B9.out.size)); clear hb6)
          | (go_at_call 57; refine (rend p l1 0 w6 P6.out).mono ?_; rw [HEV.out]; rintro x w' ⟨rfl, rfl⟩)
          | ((with_reducible refine load_row (o := ⟨some 63, _, _, _, _, _⟩) rfl _ _ rfl w2.heap.size ?_ _ (F0.rc ea en ec a' n' c').cells _ E6.out Try.underlying26 rfl ?_ ?_); (focus go_simp); (focus (exact RS.out)))
          | ((with_reducible refine store_row (o := ⟨none, _, _, _, _, _⟩) rfl _ (.tmp 2) _ rfl w.heap.size (F0.rc ea en ec a' n' c').cells ?_ ?_ 26 _ Z6.out ?_ ?_ ?_ ?_); (focus go_simp); (focus (first | (go_simp; done) | (go_simp; rfl))); (focus (exact RS.out)); (focus rfl); (focus (exact rc_one _)); intro wz hr10 hu10; have Ez := Lib.hid hr10; have D10 := Lib.hid (D6.out.put Z6.out (NB_rc _) hu10); have S10 := Lib.hid (S6.out.put Z6.out (NB_rc _) hu10); have Bz := Lib.hid (B6.out.trans (hu10.below (Nat.le_refl _))); clear hr10 hu10))
        exact bodyPost_ret (results_row_tmp rfl _ _ w.heap.size 26 _ _ _ (by go_simp) Ez.out Try.underlying26 rfl RS.out) rfl ⟨ea, en, ec, a', n', c', rfl, D10.out, S10.out, Bz.out⟩
      · rw [if_pos rfl, if_neg hev] at hD
        obtain ⟨ev, hq⟩ : ∃ x, endV l1 0 = x := ⟨_, rfl⟩
        rw [hq] at hD hev
        obtain ⟨rfl, rfl⟩ := Prod.mk.inj hD
        have HEV := Lib.hid hq
        have hne : (ev != 0) = true := by rw [bne_iff_ne]; exact hev
        clear hev hD hq
        go_wp2_with (first
          | (go_at_call 14; refine (ucheckR (F0.rc ea en ec a' n' c') F0.dt F0.sn W9 D9.out S9.out).mono ?_; rw [chk_eq _ _ _ S9.out.hlen, chkF_of D9.out S9.out, HCK.out]; rintro x w6 ⟨rfl, hb6⟩; have E6 := Lib.hid (E9.out.below hb6 E9.out.lt); have D6 := Lib.hid (D9.out.mono hb6); have S6 := Lib.hid (S9.out.mono hb6); have P6 := Lib.hid (P9.out.mono hb6); have Z6 := Lib.hid (Z9.out.below hb6 Z9.out.lt); have B6 := Lib.hid (B9.out.trans (hb6.mono B9.out.size)); clear hb6)
          | (go_at_call 57; refine (rend p l1 0 w6 P6.out).mono ?_; rw [HEV.out]; rintro x w' ⟨rfl, rfl⟩)
          | ((with_reducible refine build_row (o := ⟨some 61, _, _, _, _, _⟩) rfl _ _ rfl (Rc.z 0).cells ?_ ?_); (focus (go_simp; exact built_r0)))
          | ((with_reducible refine store_row (o := ⟨none, _, _, _, _, _⟩) rfl _ (.tmp 2) _ rfl w.heap.size (Rc.z 0).cells ?_ ?_ 26 _ Z6.out ?_ ?_ ?_ ?_); (focus go_simp); (focus (first | (go_simp; done) | (go_simp; rfl))); (focus (exact RS.out)); (focus rfl); (focus (exact rc_one _)); intro wz hr10 hu10; have Ez := Lib.hid hr10; have Bz := Lib.hid (B6.out.trans (hu10.below (Nat.le_refl _))); clear hr10 hu10))
        exact bodyPost_ret (results_row_tmp rfl _ _ w.heap.size 26 _ _ _ (by go_simp) Ez.out Try.underlying26 rfl RS.out) rfl ⟨none, 0, 0, none, 0, 0, rfl, Rd_nil _, Rd_nil _, Bz.out⟩
    · rw [if_neg (by decide)] at hD
      obtain ⟨ev, hq⟩ : ∃ x, failE 0 3 = x := ⟨_, rfl⟩
      have hne0 : ev ≠ 0 := by rw [← hq]; exact failE_ne 0
      rw [hq] at hD
      obtain ⟨rfl, rfl⟩ := Prod.mk.inj hD
      have HEV := Lib.hid hq
      have hne : (ev != 0) = true := by rw [bne_iff_ne]; exact hne0
      clear hD hq hne0
      go_wp2_with (first
        | (go_at_call 14; refine (ucheckR (F0.rc ea en ec a' n' c') F0.dt F0.sn W9 D9.out S9.out).mono ?_; rw [chk_eq _ _ _ S9.out.hlen, chkF_of D9.out S9.out, HCK.out]; rintro x w6 ⟨rfl, hb6⟩; have E6 := Lib.hid (E9.out.below hb6 E9.out.lt); have D6 := Lib.hid (D9.out.mono hb6); have S6 := Lib.hid (S9.out.mono hb6); have P6 := Lib.hid (P9.out.mono hb6); have Z6 := Lib.hid (Z9.out.below hb6 Z9.out.lt); have B6 := Lib.hid (B9.out.trans (hb6.mono B9.out.size)); clear hb6)
        | (go_at_call 56; refine (rfail p l1 0 3 w6 P6.out).mono ?_; rintro x w7 ⟨rfl, hp7, hu7⟩; have P7 := Lib.hid hp7; have Z7 := Lib.hid (Z6.out.upd hu7 (by have := PG.out; omega)); have B7 := Lib.hid (B6.out.trans (hu7.below (Nat.le_of_lt PG.out))); clear hp7 hu7)
        | (go_at_call 57; refine (rend p _ _ w7 P7.out).mono ?_; rw [endF, HEV.out]; rintro x w' ⟨rfl, rfl⟩)
        | ((with_reducible refine build_row (o := ⟨some 61, _, _, _, _, _⟩) rfl _ _ rfl (Rc.z 0).cells ?_ ?_); (focus (go_simp; exact built_r0)))
        | ((with_reducible refine store_row (o := ⟨none, _, _, _, _, _⟩) rfl _ (.tmp 2) _ rfl w.heap.size (Rc.z 0).cells ?_ ?_ 26 _ Z7.out ?_ ?_ ?_ ?_); (focus go_simp); (focus (first | (go_simp; done) | (go_simp; rfl))); (focus (exact RS.out)); (focus rfl); (focus (exact rc_one _)); intro wz hr10 hu10; have Ez := Lib.hid hr10; have Bz := Lib.hid (B7.out.trans (hu10.below (Nat.le_refl _))); clear hr10 hu10))
      exact bodyPost_ret (results_row_tmp rfl _ _ w.heap.size 26 _ _ _ (by go_simp) Ez.out Try.underlying26 rfl RS.out) rfl ⟨none, 0, 0, none, 0, 0, rfl, Rd_nil _, Rd_nil _, Bz.out⟩
  · refine (rerr p l1 e1 W9 P9.out).mono ?_
    rintro x w' ⟨rfl, rfl⟩
    rw [decV_err he] at hD
    obtain ⟨rfl, rfl⟩ := Prod.mk.inj hD
    have HEV := Lib.hid (endE (l := l1) he)
    have hne : (e1 != 0) = true := by rw [bne_iff_ne]; exact he
    have hne2 : (e1 == 0) = false := by simpa using he
    go_wp2_with (first
      | (go_at_call 57; refine (rend p l1 e1 W9 P9.out).mono ?_; rw [HEV.out]; rintro x w' ⟨rfl, rfl⟩)
      | ((with_reducible refine build_row (o := ⟨some 61, _, _, _, _, _⟩) rfl _ _ rfl (Rc.z 0).cells ?_ ?_); (focus (go_simp; exact built_r0)))
      | ((with_reducible refine store_row (o := ⟨none, _, _, _, _, _⟩) rfl _ (.tmp 2) _ rfl w.heap.size (Rc.z 0).cells ?_ ?_ 26 _ Z9.out ?_ ?_ ?_ ?_); (focus go_simp); (focus (first | (go_simp; done) | (go_simp; rfl))); (focus (exact RS.out)); (focus rfl); (focus (exact rc_one _)); intro wz hr10 hu10; have Ez := Lib.hid hr10; have Bz := Lib.hid (B9.out.trans (hu10.below (Nat.le_refl _))); clear hr10 hu10))
    exact bodyPost_ret (results_row_tmp rfl _ _ w.heap.size 26 _ _ _ (by go_simp) Ez.out Try.underlying26 rfl RS.out) rfl ⟨none, 0, 0, none, 0, 0, rfl, Rd_nil _, Rd_nil _, Bz.out⟩
set_option maxRecDepth 100000 in
set_option maxHeartbeats 16000000 in
theorem udec4 (a : Option Addr) (n c : Nat) (l : List UInt8) (w : World) (h : Rd w a n c l) (hm : n ≤ 140737488355000) (l1 : List UInt8) (e1 : Int) (h0 : numR 4 l 0 = (4, l1, e1)) (F : RF) (v : Int) (hD : decV (rdK 4 l1 e1) = (F, v)) :
    Calls Try.prog 18 #[.slice a n c] w fun x w' => ∃ ea en ec a' n' c', x = .returned (.tuple #[.agg (F.rc ea en ec a' n' c').cells.toArray, .int .i64 v]) ∧ Rd w' ea en ec F.dt ∧ Rd w' a' n' c' F.sn ∧ Below w.heap.size w w' := by
  have HL := Lib.hid h
  have H0 := Lib.hid h0
  have RZ := Lib.hid rc_zero
  have RS := Lib.hid rc_size
  clear h h0
  obtain ⟨N1, l2, e2, h1⟩ : ∃ x y z, numR 2147483648 l1 e1 = (x, y, z) := ⟨_, _, _, rfl⟩
  have hK : rdK 4 l1 e1 = (⟨4, 0, 0, 0, 0, 0, [], N1, 0, []⟩, l2, e2) := by rw [rdK, if_neg (by decide), if_neg (by decide), if_neg (by decide), if_pos rfl, rd4, h1]
  rw [hK] at hD
  have H1 := Lib.hid h1
  clear h1 hK
  go_enter Try.func18, Try.ntmps18
  go_wp2_with (first
    | ((with_reducible refine alloc_row (o := ⟨some 2, _, _, _, _, _⟩) rfl _ rfl _ RZ.out ?_); intro w1 hr1 hb1 hz1; have Z1 := Lib.hid hr1; have B1 := Lib.hid hb1; clear hr1 hb1 hz1)
    | (go_at_call 20; refine (ropen a n c l w1 (HL.out.mono B1.out) hm).mono ?_; rintro x w0 ⟨p, rfl, hp0, hp2, hb2⟩; have P0 := Lib.hid hp2; have PG := Lib.hid (show w.heap.size < p from Nat.lt_of_lt_of_le Z1.out.lt hp0); have Z0 := Lib.hid (Z1.out.below hb2 Z1.out.lt); have B0 := Lib.hid (B1.out.trans (hb2.mono B1.out.size)); clear hp0 hp2 hb2)
    | (go_at_call 54; (with_reducible refine (rnumR p 4 l 0 w0 P0.out).mono ?_); rw [H0.out]; rintro x w2 ⟨rfl, hp, hu⟩; have P2 := Lib.hid hp; have Z2 := Lib.hid (Z0.out.upd hu (by have := PG.out; omega)); have B2 := Lib.hid (B0.out.trans (hu.below (Nat.le_of_lt PG.out))); clear hp hu)
    | ((with_reducible refine build_row (o := ⟨some 11, _, _, _, _, _⟩) rfl _ _ rfl (Rc.z 4).cells ?_ ?_); (focus (go_simp; exact built_k _)))
    | ((with_reducible refine alloc_row (o := ⟨some 5, _, _, _, _, _⟩) rfl _ rfl _ RZ.out ?_); intro w3 hr3 hb3 hz3; have E3 := Lib.hid hr3; have GC := Lib.hid (show w.heap.size < w2.heap.size ∧ p < w2.heap.size from ⟨Z2.out.lt, P2.out.lt⟩); have GS := Lib.hid (show w.heap.size ≤ w2.heap.size from B2.out.size); have Z3 := Lib.hid (Z2.out.below hb3 Z2.out.lt); have P3 := Lib.hid (P2.out.mono hb3); have B3 := Lib.hid (B2.out.trans (hb3.mono B2.out.size)); clear hr3 hb3 hz3)
    | ((with_reducible refine store_row (o := ⟨none, _, _, _, _, _⟩) rfl _ (.tmp 5) _ rfl w2.heap.size (Rc.z 4).cells ?_ ?_ 26 _ E3.out ?_ ?_ ?_ ?_); (focus go_simp); (focus (first | (go_simp; done) | (go_simp; rfl))); (focus (exact RS.out)); (focus rfl); (focus (exact rc_one _)); intro w4 hr4 hu4; have E4 := Lib.hid hr4; have Z4 := Lib.hid (Z3.out.upd hu4 (by have := PG.out; have := GC.out; omega)); have P4 := Lib.hid (P3.out.put (by have := PG.out; have := GC.out; omega) E3.out (NB_rc _) hu4); have B4 := Lib.hid (B3.out.trans (hu4.below GS.out)); have c0 := (show w4.cell? ⟨w2.heap.size, 0, none⟩ = some (.int .i64 (4 : Int)) from hr4.q10.1); clear hr4 hu4)
    | (go_at_call 54; (with_reducible refine (rnumR p 2147483648 l1 e1 (w4) P4.out).mono ?_); rw [H1.out]; rintro x w5 ⟨rfl, hp, hu⟩; have P5 := Lib.hid hp; have E5 := Lib.hid (E4.out.upd hu (by have := PG.out; have := GC.out; omega)); have Z5 := Lib.hid (Z4.out.upd hu (by have := PG.out; have := GC.out; omega)); have B5 := Lib.hid (B4.out.trans (hu.below (Nat.le_of_lt PG.out))); have Uq := Lib.hid (Upd.setCell (w5) w2.heap.size 7 (.int .i64 N1)); have E9 := Lib.hid (show Row ((w5).setCell ⟨w2.heap.size, 7, none⟩ (.int .i64 N1)) w2.heap.size 26 (Rc.cells ⟨4, 0, 0, ⟨0, 0, 0, none, 0, 0⟩, N1, 0, none, 0, 0⟩) from (E5.out).setV 7 (.int .i64 N1)); have P9 := Lib.hid (P5.out.put (by have := PG.out; have := GC.out; omega) E5.out (NB_rc _) Uq.out); have Z9 := Lib.hid (Z5.out.upd Uq.out (by have := PG.out; have := GC.out; omega)); have B9 := Lib.hid (B5.out.trans (Uq.out.below GS.out)); have f7 := E5.out.frozen 7; obtain ⟨d0, d1, d2, d3, d4, d5, d6, d7, d8, d9⟩ := E5.out.q10; clear Uq hp hu c0))
  obtain ⟨F0, hF0⟩ : ∃ x, (⟨4, 0, 0, 0, 0, 0, [], (N1 : Int), 0, []⟩ : RF) = x := ⟨_, rfl⟩
  obtain ⟨ea, en, ec, a', n', c', E9, D9, S9⟩ : ∃ ea en ec a' n' c', Hid (Row ((w5).setCell ⟨w2.heap.size, 7, none⟩ (.int .i64 N1)) w2.heap.size 26 (RF.rc F0 ea en ec a' n' c').cells) ∧ Hid (Rd ((w5).setCell ⟨w2.heap.size, 7, none⟩ (.int .i64 N1)) ea en ec F0.dt) ∧ Hid (Rd ((w5).setCell ⟨w2.heap.size, 7, none⟩ (.int .i64 N1)) a' n' c' F0.sn) := by rw [← hF0]; exact ⟨none, 0, 0, none, 0, 0, E9, Lib.hid (Rd_nil _), Lib.hid (Rd_nil _)⟩
  rw [hF0] at hD
  clear hF0
  obtain ⟨W9, hW9⟩ : ∃ x, (w5).setCell ⟨w2.heap.size, 7, none⟩ (.int .i64 N1) = x := ⟨_, rfl⟩
  rw [hW9] at E9 D9 S9 P9 Z9 B9 ⊢
  clear hW9 f7 d0 d1 d2 d3 d4 d5 d6 d7 d8 d9
  have NE := Lib.hid (show w2.heap.size ≠ w.heap.size by have := GC.out; omega)
  obtain ⟨x0, x1, x2, x3, x4, x5, x6, x7, x8, x9⟩ := E9.out.q10
  by_cases he : e2 = 0
  · rw [he] at hD P9
    refine (rerr p l2 0 W9 P9.out).mono ?_
    rintro x w' ⟨rfl, rfl⟩
    obtain ⟨ck, hck⟩ : ∃ x, chkF F0 = x := ⟨_, rfl⟩
    have HCK := Lib.hid hck
    have h01 := chkF01 F0
    rw [hck] at h01
    unfold decV at hD
    dsimp only at hD
    rw [hck] at hD
    clear hck
    rcases h01 with rfl | rfl
    · by_cases hev : endV l2 0 = 0
      · rw [if_pos rfl, if_pos hev] at hD
        obtain ⟨rfl, rfl⟩ := Prod.mk.inj hD
        have HEV := Lib.hid hev
        clear hev hD
        go_wp2_with (first
          | (go_at_call 14; refine (ucheckR (F0.rc ea en ec a' n' c') F0.dt F0.sn W9 D9.out S9.out).mono ?_; rw [chk_eq _ _ _ S9.out.hlen, chkF_of D9.out S9.out, HCK.out]; rintro x w6 ⟨rfl, hb6⟩; have E6 := Lib.hid (E9.out.below hb6 E9.out.lt); have D6 := Lib.hid (D9.out.mono hb6); have S6 := Lib.hid (S9.out.mono hb6); have P6 := Lib.hid (P9.out.mono hb6); have Z6 := Lib.hid (Z9.out.below hb6 Z9.out.lt); have B6 := Lib.hid (B9.out.trans (hb6.mono B9.out.size)); clear hb6)
          | (go_at_call 57; refine (rend p l2 0 w6 P6.out).mono ?_; rw [HEV.out]; rintro x w' ⟨rfl, rfl⟩)
          | ((with_reducible refine load_row (o := ⟨some 63, _, _, _, _, _⟩) rfl _ _ rfl w2.heap.size ?_ _ (F0.rc ea en ec a' n' c').cells _ E6.out Try.underlying26 rfl ?_ ?_); (focus go_simp); (focus (exact RS.out)))
          | ((with_reducible refine store_row (o := ⟨none, _, _, _, _, _⟩) rfl _ (.tmp 2) _ rfl w.heap.size (F0.rc ea en ec a' n' c').cells ?_ ?_ 26 _ Z6.out ?_ ?_ ?_ ?_); (focus go_simp); (focus (first | (go_simp; done) | (go_simp; rfl))); (focus (exact RS.out)); (focus rfl); (focus (exact rc_one _)); intro wz hr10 hu10; have Ez := Lib.hid hr10; have D10 := Lib.hid (D6.out.put Z6.out (NB_rc _) hu10); have S10 := Lib.hid (S6.out.put Z6.out (NB_rc _) hu10); have Bz := Lib.hid (B6.out.trans (hu10.below (Nat.le_refl _))); clear hr10 hu10))
        exact bodyPost_ret (results_row_tmp rfl _ _ w.heap.size 26 _ _ _ (by go_simp) Ez.out Try.underlying26 rfl RS.out) rfl ⟨ea, en, ec, a', n', c', rfl, D10.out, S10.out, Bz.out⟩
      · rw [if_pos rfl, if_neg hev] at hD
        obtain ⟨ev, hq⟩ : ∃ x, endV l2 0 = x := ⟨_, rfl⟩
        rw [hq] at hD hev
        obtain ⟨rfl, rfl⟩ := Prod.mk.inj hD
        have HEV := Lib.hid hq
        have hne : (ev != 0) = true := by rw [bne_iff_ne]; exact hev
        clear hev hD hq
        go_wp2_with (first
          | (go_at_call 14; refine (ucheckR (F0.rc ea en ec a' n' c') F0.dt F0.sn W9 D9.out S9.out).mono ?_; rw [chk_eq _ _ _ S9.out.hlen, chkF_of D9.out S9.out, HCK.out]; rintro x w6 ⟨rfl, hb6⟩; have E6 := Lib.hid (E9.out.below hb6 E9.out.lt); have D6 := Lib.hid (D9.out.mono hb6); have S6 := Lib.hid (S9.out.mono hb6); have P6 := Lib.hid (P9.out.mono hb6); have Z6 := Lib.hid (Z9.out.below hb6 Z9.out.lt); have B6 := Lib.hid (B9.out.trans (hb6.mono B9.out.size)); clear hb6)
          | (go_at_call 57; refine (rend p l2 0 w6 P6.out).mono ?_; rw [HEV.out]; rintro x w' ⟨rfl, rfl⟩)
          | ((with_reducible refine build_row (o := ⟨some 61, _, _, _, _, _⟩) rfl _ _ rfl (Rc.z 0).cells ?_ ?_); (focus (go_simp; exact built_r0)))
          | ((with_reducible refine store_row (o := ⟨none, _, _, _, _, _⟩) rfl _ (.tmp 2) _ rfl w.heap.size (Rc.z 0).cells ?_ ?_ 26 _ Z6.out ?_ ?_ ?_ ?_); (focus go_simp); (focus (first | (go_simp; done) | (go_simp; rfl))); (focus (exact RS.out)); (focus rfl); (focus (exact rc_one _)); intro wz hr10 hu10; have Ez := Lib.hid hr10; have Bz := Lib.hid (B6.out.trans (hu10.below (Nat.le_refl _))); clear hr10 hu10))
        exact bodyPost_ret (results_row_tmp rfl _ _ w.heap.size 26 _ _ _ (by go_simp) Ez.out Try.underlying26 rfl RS.out) rfl ⟨none, 0, 0, none, 0, 0, rfl, Rd_nil _, Rd_nil _, Bz.out⟩
    · rw [if_neg (by decide)] at hD
      obtain ⟨ev, hq⟩ : ∃ x, failE 0 3 = x := ⟨_, rfl⟩
      have hne0 : ev ≠ 0 := by rw [← hq]; exact failE_ne 0
      rw [hq] at hD
      obtain ⟨rfl, rfl⟩ := Prod.mk.inj hD
      have HEV := Lib.hid hq
      have hne : (ev != 0) = true := by rw [bne_iff_ne]; exact hne0
      clear hD hq hne0
      go_wp2_with (first
        | (go_at_call 14; refine (ucheckR (F0.rc ea en ec a' n' c') F0.dt F0.sn W9 D9.out S9.out).mono ?_; rw [chk_eq _ _ _ S9.out.hlen, chkF_of D9.out S9.out, HCK.out]; rintro x w6 ⟨rfl, hb6⟩; have E6 := Lib.hid (E9.out.below hb6 E9.out.lt); have D6 := Lib.hid (D9.out.mono hb6); have S6 := Lib.hid (S9.out.mono hb6); have P6 := Lib.hid (P9.out.mono hb6); have Z6 := Lib.hid (Z9.out.below hb6 Z9.out.lt); have B6 := Lib.hid (B9.out.trans (hb6.mono B9.out.size)); clear hb6)
        | (go_at_call 56; refine (rfail p l2 0 3 w6 P6.out).mono ?_; rintro x w7 ⟨rfl, hp7, hu7⟩; have P7 := Lib.hid hp7; have Z7 := Lib.hid (Z6.out.upd hu7 (by have := PG.out; omega)); have B7 := Lib.hid (B6.out.trans (hu7.below (Nat.le_of_lt PG.out))); clear hp7 hu7)
        | (go_at_call 57; refine (rend p _ _ w7 P7.out).mono ?_; rw [endF, HEV.out]; rintro x w' ⟨rfl, rfl⟩)
        | ((with_reducible refine build_row (o := ⟨some 61, _, _, _, _, _⟩) rfl _ _ rfl (Rc.z 0).cells ?_ ?_); (focus (go_simp; exact built_r0)))
        | ((with_reducible refine store_row (o := ⟨none, _, _, _, _, _⟩) rfl _ (.tmp 2) _ rfl w.heap.size (Rc.z 0).cells ?_ ?_ 26 _ Z7.out ?_ ?_ ?_ ?_); (focus go_simp); (focus (first | (go_simp; done) | (go_simp; rfl))); (focus (exact RS.out)); (focus rfl); (focus (exact rc_one _)); intro wz hr10 hu10; have Ez := Lib.hid hr10; have Bz := Lib.hid (B7.out.trans (hu10.below (Nat.le_refl _))); clear hr10 hu10))
      exact bodyPost_ret (results_row_tmp rfl _ _ w.heap.size 26 _ _ _ (by go_simp) Ez.out Try.underlying26 rfl RS.out) rfl ⟨none, 0, 0, none, 0, 0, rfl, Rd_nil _, Rd_nil _, Bz.out⟩
  · refine (rerr p l2 e2 W9 P9.out).mono ?_
    rintro x w' ⟨rfl, rfl⟩
    rw [decV_err he] at hD
    obtain ⟨rfl, rfl⟩ := Prod.mk.inj hD
    have HEV := Lib.hid (endE (l := l2) he)
    have hne : (e2 != 0) = true := by rw [bne_iff_ne]; exact he
    have hne2 : (e2 == 0) = false := by simpa using he
    go_wp2_with (first
      | (go_at_call 57; refine (rend p l2 e2 W9 P9.out).mono ?_; rw [HEV.out]; rintro x w' ⟨rfl, rfl⟩)
      | ((with_reducible refine build_row (o := ⟨some 61, _, _, _, _, _⟩) rfl _ _ rfl (Rc.z 0).cells ?_ ?_); (focus (go_simp; exact built_r0)))
      | ((with_reducible refine store_row (o := ⟨none, _, _, _, _, _⟩) rfl _ (.tmp 2) _ rfl w.heap.size (Rc.z 0).cells ?_ ?_ 26 _ Z9.out ?_ ?_ ?_ ?_); (focus go_simp); (focus (first | (go_simp; done) | (go_simp; rfl))); (focus (exact RS.out)); (focus rfl); (focus (exact rc_one _)); intro wz hr10 hu10; have Ez := Lib.hid hr10; have Bz := Lib.hid (B9.out.trans (hu10.below (Nat.le_refl _))); clear hr10 hu10))
    exact bodyPost_ret (results_row_tmp rfl _ _ w.heap.size 26 _ _ _ (by go_simp) Ez.out Try.underlying26 rfl RS.out) rfl ⟨none, 0, 0, none, 0, 0, rfl, Rd_nil _, Rd_nil _, Bz.out⟩
set_option maxRecDepth 100000 in
set_option maxHeartbeats 16000000 in
theorem udec2 (a : Option Addr) (n c : Nat) (l : List UInt8) (w : World) (h : Rd w a n c l) (hm : n ≤ 140737488355000) (l1 : List UInt8) (e1 : Int) (h0 : numR 4 l 0 = (2, l1, e1)) (F : RF) (v : Int) (hD : decV (rdK 2 l1 e1) = (F, v)) :
    Calls Try.prog 18 #[.slice a n c] w fun x w' => ∃ ea en ec a' n' c', x = .returned (.tuple #[.agg (F.rc ea en ec a' n' c').cells.toArray, .int .i64 v]) ∧ Rd w' ea en ec F.dt ∧ Rd w' a' n' c' F.sn ∧ Below w.heap.size w w' := by
  have HL := Lib.hid h
  have H0 := Lib.hid h0
  have RZ := Lib.hid rc_zero
  have RS := Lib.hid rc_size
  clear h h0
  obtain ⟨N1, l2, e2, h1⟩ : ∃ x y z, numR 2147483648 l1 e1 = (x, y, z) := ⟨_, _, _, rfl⟩
  obtain ⟨N2, l3, e3, h2⟩ : ∃ x y z, numR 7 l2 e2 = (x, y, z) := ⟨_, _, _, rfl⟩
  have hK : rdK 2 l1 e1 = (⟨2, N1, N2, 0, 0, 0, [], 0, 0, []⟩, l3, e3) := by rw [rdK, if_neg (by decide), if_pos rfl, rd2, h1]; dsimp only; rw [h2]
  rw [hK] at hD
  have H1 := Lib.hid h1
  have H2 := Lib.hid h2
  clear h1 h2 hK
  go_enter Try.func18, Try.ntmps18
  go_wp2_with (first
    | ((with_reducible refine alloc_row (o := ⟨some 2, _, _, _, _, _⟩) rfl _ rfl _ RZ.out ?_); intro w1 hr1 hb1 hz1; have Z1 := Lib.hid hr1; have B1 := Lib.hid hb1; clear hr1 hb1 hz1)
    | (go_at_call 20; refine (ropen a n c l w1 (HL.out.mono B1.out) hm).mono ?_; rintro x w0 ⟨p, rfl, hp0, hp2, hb2⟩; have P0 := Lib.hid hp2; have PG := Lib.hid (show w.heap.size < p from Nat.lt_of_lt_of_le Z1.out.lt hp0); have Z0 := Lib.hid (Z1.out.below hb2 Z1.out.lt); have B0 := Lib.hid (B1.out.trans (hb2.mono B1.out.size)); clear hp0 hp2 hb2)
    | (go_at_call 54; (with_reducible refine (rnumR p 4 l 0 w0 P0.out).mono ?_); rw [H0.out]; rintro x w2 ⟨rfl, hp, hu⟩; have P2 := Lib.hid hp; have Z2 := Lib.hid (Z0.out.upd hu (by have := PG.out; omega)); have B2 := Lib.hid (B0.out.trans (hu.below (Nat.le_of_lt PG.out))); clear hp hu)
    | ((with_reducible refine build_row (o := ⟨some 11, _, _, _, _, _⟩) rfl _ _ rfl (Rc.z 2).cells ?_ ?_); (focus (go_simp; exact built_k _)))
    | ((with_reducible refine alloc_row (o := ⟨some 5, _, _, _, _, _⟩) rfl _ rfl _ RZ.out ?_); intro w3 hr3 hb3 hz3; have E3 := Lib.hid hr3; have GC := Lib.hid (show w.heap.size < w2.heap.size ∧ p < w2.heap.size from ⟨Z2.out.lt, P2.out.lt⟩); have GS := Lib.hid (show w.heap.size ≤ w2.heap.size from B2.out.size); have Z3 := Lib.hid (Z2.out.below hb3 Z2.out.lt); have P3 := Lib.hid (P2.out.mono hb3); have B3 := Lib.hid (B2.out.trans (hb3.mono B2.out.size)); clear hr3 hb3 hz3)
    | ((with_reducible refine store_row (o := ⟨none, _, _, _, _, _⟩) rfl _ (.tmp 5) _ rfl w2.heap.size (Rc.z 2).cells ?_ ?_ 26 _ E3.out ?_ ?_ ?_ ?_); (focus go_simp); (focus (first | (go_simp; done) | (go_simp; rfl))); (focus (exact RS.out)); (focus rfl); (focus (exact rc_one _)); intro w4 hr4 hu4; have E4 := Lib.hid hr4; have Z4 := Lib.hid (Z3.out.upd hu4 (by have := PG.out; have := GC.out; omega)); have P4 := Lib.hid (P3.out.put (by have := PG.out; have := GC.out; omega) E3.out (NB_rc _) hu4); have B4 := Lib.hid (B3.out.trans (hu4.below GS.out)); have c0 := (show w4.cell? ⟨w2.heap.size, 0, none⟩ = some (.int .i64 (2 : Int)) from hr4.q10.1); clear hr4 hu4)
    | (go_at_call 54; (with_reducible refine (rnumR p 2147483648 l1 e1 (w4) P4.out).mono ?_); rw [H1.out]; rintro x w5 ⟨rfl, hp, hu⟩; have P5 := Lib.hid hp; have E5 := Lib.hid (E4.out.upd hu (by have := PG.out; have := GC.out; omega)); have Z5 := Lib.hid (Z4.out.upd hu (by have := PG.out; have := GC.out; omega)); have B5 := Lib.hid (B4.out.trans (hu.below (Nat.le_of_lt PG.out))); have Uq := Lib.hid (Upd.setCell (w5) w2.heap.size 1 (.int .i64 N1)); have Ea := Lib.hid (show Row ((w5).setCell ⟨w2.heap.size, 1, none⟩ (.int .i64 N1)) w2.heap.size 26 (Rc.cells ⟨2, N1, 0, ⟨0, 0, 0, none, 0, 0⟩, 0, 0, none, 0, 0⟩) from (E5.out).setV 1 (.int .i64 N1)); have Pa := Lib.hid (P5.out.put (by have := PG.out; have := GC.out; omega) E5.out (NB_rc _) Uq.out); have Za := Lib.hid (Z5.out.upd Uq.out (by have := PG.out; have := GC.out; omega)); have Ba := Lib.hid (B5.out.trans (Uq.out.below GS.out)); have f1 := E5.out.frozen 1; obtain ⟨d0, d1, d2, d3, d4, d5, d6, d7, d8, d9⟩ := E5.out.q10; clear Uq hp hu c0)
    | (go_at_call 54; (with_reducible refine (rnumR p 7 l2 e2 ((w5).setCell ⟨w2.heap.size, 1, none⟩ (.int .i64 N1)) Pa.out).mono ?_); rw [H2.out]; rintro x w6 ⟨rfl, hp, hu⟩; have P6 := Lib.hid hp; have E6 := Lib.hid (Ea.out.upd hu (by have := PG.out; have := GC.out; omega)); have Z6 := Lib.hid (Za.out.upd hu (by have := PG.out; have := GC.out; omega)); have B6 := Lib.hid (Ba.out.trans (hu.below (Nat.le_of_lt PG.out))); have Uq := Lib.hid (Upd.setCell (w6) w2.heap.size 2 (.int .i64 N2)); have E9 := Lib.hid (show Row ((w6).setCell ⟨w2.heap.size, 2, none⟩ (.int .i64 N2)) w2.heap.size 26 (Rc.cells ⟨2, N1, N2, ⟨0, 0, 0, none, 0, 0⟩, 0, 0, none, 0, 0⟩) from (E6.out).setV 2 (.int .i64 N2)); have P9 := Lib.hid (P6.out.put (by have := PG.out; have := GC.out; omega) E6.out (NB_rc _) Uq.out); have Z9 := Lib.hid (Z6.out.upd Uq.out (by have := PG.out; have := GC.out; omega)); have B9 := Lib.hid (B6.out.trans (Uq.out.below GS.out)); have f2 := E6.out.frozen 2; clear f1 d0 d1 d2 d3 d4 d5 d6 d7 d8 d9; obtain ⟨d0, d1, d2, d3, d4, d5, d6, d7, d8, d9⟩ := E6.out.q10; clear Uq hp hu))
  obtain ⟨F0, hF0⟩ : ∃ x, (⟨2, (N1 : Int), (N2 : Int), 0, 0, 0, [], 0, 0, []⟩ : RF) = x := ⟨_, rfl⟩
  obtain ⟨ea, en, ec, a', n', c', E9, D9, S9⟩ : ∃ ea en ec a' n' c', Hid (Row ((w6).setCell ⟨w2.heap.size, 2, none⟩ (.int .i64 N2)) w2.heap.size 26 (RF.rc F0 ea en ec a' n' c').cells) ∧ Hid (Rd ((w6).setCell ⟨w2.heap.size, 2, none⟩ (.int .i64 N2)) ea en ec F0.dt) ∧ Hid (Rd ((w6).setCell ⟨w2.heap.size, 2, none⟩ (.int .i64 N2)) a' n' c' F0.sn) := by rw [← hF0]; exact ⟨none, 0, 0, none, 0, 0, E9, Lib.hid (Rd_nil _), Lib.hid (Rd_nil _)⟩
  rw [hF0] at hD
  clear hF0
  obtain ⟨W9, hW9⟩ : ∃ x, (w6).setCell ⟨w2.heap.size, 2, none⟩ (.int .i64 N2) = x := ⟨_, rfl⟩
  rw [hW9] at E9 D9 S9 P9 Z9 B9 ⊢
  clear hW9 f2 d0 d1 d2 d3 d4 d5 d6 d7 d8 d9
  have NE := Lib.hid (show w2.heap.size ≠ w.heap.size by have := GC.out; omega)
  obtain ⟨x0, x1, x2, x3, x4, x5, x6, x7, x8, x9⟩ := E9.out.q10
  by_cases he : e3 = 0
  · rw [he] at hD P9
    refine (rerr p l3 0 W9 P9.out).mono ?_
    rintro x w' ⟨rfl, rfl⟩
    obtain ⟨ck, hck⟩ : ∃ x, chkF F0 = x := ⟨_, rfl⟩
    have HCK := Lib.hid hck
    have h01 := chkF01 F0
    rw [hck] at h01
    unfold decV at hD
    dsimp only at hD
    rw [hck] at hD
    clear hck
    rcases h01 with rfl | rfl
    · by_cases hev : endV l3 0 = 0
      · rw [if_pos rfl, if_pos hev] at hD
        obtain ⟨rfl, rfl⟩ := Prod.mk.inj hD
        have HEV := Lib.hid hev
        clear hev hD
        go_wp2_with (first
          | (go_at_call 14; refine (ucheckR (F0.rc ea en ec a' n' c') F0.dt F0.sn W9 D9.out S9.out).mono ?_; rw [chk_eq _ _ _ S9.out.hlen, chkF_of D9.out S9.out, HCK.out]; rintro x w6 ⟨rfl, hb6⟩; have E6 := Lib.hid (E9.out.below hb6 E9.out.lt); have D6 := Lib.hid (D9.out.mono hb6); have S6 := Lib.hid (S9.out.mono hb6); have P6 := Lib.hid (P9.out.mono hb6); have Z6 := Lib.hid (Z9.out.below hb6 Z9.out.lt); have B6 := Lib.hid (B9.out.trans (hb6.mono B9.out.size)); clear hb6)
          | (go_at_call 57; refine (rend p l3 0 w6 P6.out).mono ?_; rw [HEV.out]; rintro x w' ⟨rfl, rfl⟩)
          | ((with_reducible refine load_row (o := ⟨some 63, _, _, _, _, _⟩) rfl _ _ rfl w2.heap.size ?_ _ (F0.rc ea en ec a' n' c').cells _ E6.out Try.underlying26 rfl ?_ ?_); (focus go_simp); (focus (exact RS.out)))
          | ((with_reducible refine store_row (o := ⟨none, _, _, _, _, _⟩) rfl _ (.tmp 2) _ rfl w.heap.size (F0.rc ea en ec a' n' c').cells ?_ ?_ 26 _ Z6.out ?_ ?_ ?_ ?_); (focus go_simp); (focus (first | (go_simp; done) | (go_simp; rfl))); (focus (exact RS.out)); (focus rfl); (focus (exact rc_one _)); intro wz hr10 hu10; have Ez := Lib.hid hr10; have D10 := Lib.hid (D6.out.put Z6.out (NB_rc _) hu10); have S10 := Lib.hid (S6.out.put Z6.out (NB_rc _) hu10); have Bz := Lib.hid (B6.out.trans (hu10.below (Nat.le_refl _))); clear hr10 hu10))
        exact bodyPost_ret (results_row_tmp rfl _ _ w.heap.size 26 _ _ _ (by go_simp) Ez.out Try.underlying26 rfl RS.out) rfl ⟨ea, en, ec, a', n', c', rfl, D10.out, S10.out, Bz.out⟩
      · rw [if_pos rfl, if_neg hev] at hD
        obtain ⟨ev, hq⟩ : ∃ x, endV l3 0 = x := ⟨_, rfl⟩
        rw [hq] at hD hev
        obtain ⟨rfl, rfl⟩ := Prod.mk.inj hD
        have HEV := Lib.hid hq
        have hne : (ev != 0) = true := by rw [bne_iff_ne]; exact hev
        clear hev hD hq
        go_wp2_with (first
          | (go_at_call 14; refine (ucheckR (F0.rc ea en ec a' n' c') F0.dt F0.sn W9 D9.out S9.out).mono ?_; rw [chk_eq _ _ _ S9.out.hlen, chkF_of D9.out S9.out, HCK.out]; rintro x w6 ⟨rfl, hb6⟩; have E6 := Lib.hid (E9.out.below hb6 E9.out.lt); have D6 := Lib.hid (D9.out.mono hb6); have S6 := Lib.hid (S9.out.mono hb6); have P6 := Lib.hid (P9.out.mono hb6); have Z6 := Lib.hid (Z9.out.below hb6 Z9.out.lt); have B6 := Lib.hid (B9.out.trans (hb6.mono B9.out.size)); clear hb6)
          | (go_at_call 57; refine (rend p l3 0 w6 P6.out).mono ?_; rw [HEV.out]; rintro x w' ⟨rfl, rfl⟩)
          | ((with_reducible refine build_row (o := ⟨some 61, _, _, _, _, _⟩) rfl _ _ rfl (Rc.z 0).cells ?_ ?_); (focus (go_simp; exact built_r0)))
          | ((with_reducible refine store_row (o := ⟨none, _, _, _, _, _⟩) rfl _ (.tmp 2) _ rfl w.heap.size (Rc.z 0).cells ?_ ?_ 26 _ Z6.out ?_ ?_ ?_ ?_); (focus go_simp); (focus (first | (go_simp; done) | (go_simp; rfl))); (focus (exact RS.out)); (focus rfl); (focus (exact rc_one _)); intro wz hr10 hu10; have Ez := Lib.hid hr10; have Bz := Lib.hid (B6.out.trans (hu10.below (Nat.le_refl _))); clear hr10 hu10))
        exact bodyPost_ret (results_row_tmp rfl _ _ w.heap.size 26 _ _ _ (by go_simp) Ez.out Try.underlying26 rfl RS.out) rfl ⟨none, 0, 0, none, 0, 0, rfl, Rd_nil _, Rd_nil _, Bz.out⟩
    · rw [if_neg (by decide)] at hD
      obtain ⟨ev, hq⟩ : ∃ x, failE 0 3 = x := ⟨_, rfl⟩
      have hne0 : ev ≠ 0 := by rw [← hq]; exact failE_ne 0
      rw [hq] at hD
      obtain ⟨rfl, rfl⟩ := Prod.mk.inj hD
      have HEV := Lib.hid hq
      have hne : (ev != 0) = true := by rw [bne_iff_ne]; exact hne0
      clear hD hq hne0
      go_wp2_with (first
        | (go_at_call 14; refine (ucheckR (F0.rc ea en ec a' n' c') F0.dt F0.sn W9 D9.out S9.out).mono ?_; rw [chk_eq _ _ _ S9.out.hlen, chkF_of D9.out S9.out, HCK.out]; rintro x w6 ⟨rfl, hb6⟩; have E6 := Lib.hid (E9.out.below hb6 E9.out.lt); have D6 := Lib.hid (D9.out.mono hb6); have S6 := Lib.hid (S9.out.mono hb6); have P6 := Lib.hid (P9.out.mono hb6); have Z6 := Lib.hid (Z9.out.below hb6 Z9.out.lt); have B6 := Lib.hid (B9.out.trans (hb6.mono B9.out.size)); clear hb6)
        | (go_at_call 56; refine (rfail p l3 0 3 w6 P6.out).mono ?_; rintro x w7 ⟨rfl, hp7, hu7⟩; have P7 := Lib.hid hp7; have Z7 := Lib.hid (Z6.out.upd hu7 (by have := PG.out; omega)); have B7 := Lib.hid (B6.out.trans (hu7.below (Nat.le_of_lt PG.out))); clear hp7 hu7)
        | (go_at_call 57; refine (rend p _ _ w7 P7.out).mono ?_; rw [endF, HEV.out]; rintro x w' ⟨rfl, rfl⟩)
        | ((with_reducible refine build_row (o := ⟨some 61, _, _, _, _, _⟩) rfl _ _ rfl (Rc.z 0).cells ?_ ?_); (focus (go_simp; exact built_r0)))
        | ((with_reducible refine store_row (o := ⟨none, _, _, _, _, _⟩) rfl _ (.tmp 2) _ rfl w.heap.size (Rc.z 0).cells ?_ ?_ 26 _ Z7.out ?_ ?_ ?_ ?_); (focus go_simp); (focus (first | (go_simp; done) | (go_simp; rfl))); (focus (exact RS.out)); (focus rfl); (focus (exact rc_one _)); intro wz hr10 hu10; have Ez := Lib.hid hr10; have Bz := Lib.hid (B7.out.trans (hu10.below (Nat.le_refl _))); clear hr10 hu10))
      exact bodyPost_ret (results_row_tmp rfl _ _ w.heap.size 26 _ _ _ (by go_simp) Ez.out Try.underlying26 rfl RS.out) rfl ⟨none, 0, 0, none, 0, 0, rfl, Rd_nil _, Rd_nil _, Bz.out⟩
  · refine (rerr p l3 e3 W9 P9.out).mono ?_
    rintro x w' ⟨rfl, rfl⟩
    rw [decV_err he] at hD
    obtain ⟨rfl, rfl⟩ := Prod.mk.inj hD
    have HEV := Lib.hid (endE (l := l3) he)
    have hne : (e3 != 0) = true := by rw [bne_iff_ne]; exact he
    have hne2 : (e3 == 0) = false := by simpa using he
    go_wp2_with (first
      | (go_at_call 57; refine (rend p l3 e3 W9 P9.out).mono ?_; rw [HEV.out]; rintro x w' ⟨rfl, rfl⟩)
      | ((with_reducible refine build_row (o := ⟨some 61, _, _, _, _, _⟩) rfl _ _ rfl (Rc.z 0).cells ?_ ?_); (focus (go_simp; exact built_r0)))
      | ((with_reducible refine store_row (o := ⟨none, _, _, _, _, _⟩) rfl _ (.tmp 2) _ rfl w.heap.size (Rc.z 0).cells ?_ ?_ 26 _ Z9.out ?_ ?_ ?_ ?_); (focus go_simp); (focus (first | (go_simp; done) | (go_simp; rfl))); (focus (exact RS.out)); (focus rfl); (focus (exact rc_one _)); intro wz hr10 hu10; have Ez := Lib.hid hr10; have Bz := Lib.hid (B9.out.trans (hu10.below (Nat.le_refl _))); clear hr10 hu10))
    exact bodyPost_ret (results_row_tmp rfl _ _ w.heap.size 26 _ _ _ (by go_simp) Ez.out Try.underlying26 rfl RS.out) rfl ⟨none, 0, 0, none, 0, 0, rfl, Rd_nil _, Rd_nil _, Bz.out⟩
set_option maxRecDepth 100000 in
set_option maxHeartbeats 16000000 in
theorem udec3 (a : Option Addr) (n c : Nat) (l : List UInt8) (w : World) (h : Rd w a n c l) (hm : n ≤ 140737488355000) (l1 : List UInt8) (e1 : Int) (h0 : numR 4 l 0 = (3, l1, e1)) (F : RF) (v : Int) (hD : decV (rdK 3 l1 e1) = (F, v)) :
    Calls Try.prog 18 #[.slice a n c] w fun x w' => ∃ ea en ec a' n' c', x = .returned (.tuple #[.agg (F.rc ea en ec a' n' c').cells.toArray, .int .i64 v]) ∧ Rd w' ea en ec F.dt ∧ Rd w' a' n' c' F.sn ∧ Below w.heap.size w w' := by
  have HL := Lib.hid h
  have H0 := Lib.hid h0
  have RZ := Lib.hid rc_zero
  have RS := Lib.hid rc_size
  clear h h0
  obtain ⟨⟨ix, tm, kd, dt⟩, l2, e2, h1⟩ : ∃ x y z, rdE l1 e1 = (x, y, z) := ⟨_, _, _, rfl⟩
  have hK : rdK 3 l1 e1 = (⟨3, 0, 0, ix, tm, kd, dt, 0, 0, []⟩, l2, e2) := by rw [rdK, if_neg (by decide), if_neg (by decide), if_pos rfl, rd3, h1]
  rw [hK] at hD
  have H1 := Lib.hid h1
  clear h1 hK
  go_enter Try.func18, Try.ntmps18
  go_wp2_with (first
    | ((with_reducible refine alloc_row (o := ⟨some 2, _, _, _, _, _⟩) rfl _ rfl _ RZ.out ?_); intro w1 hr1 hb1 hz1; have Z1 := Lib.hid hr1; have B1 := Lib.hid hb1; clear hr1 hb1 hz1)
    | (go_at_call 20; refine (ropen a n c l w1 (HL.out.mono B1.out) hm).mono ?_; rintro x w0 ⟨p, rfl, hp0, hp2, hb2⟩; have P0 := Lib.hid hp2; have PG := Lib.hid (show w.heap.size < p from Nat.lt_of_lt_of_le Z1.out.lt hp0); have Z0 := Lib.hid (Z1.out.below hb2 Z1.out.lt); have B0 := Lib.hid (B1.out.trans (hb2.mono B1.out.size)); clear hp0 hp2 hb2)
    | (go_at_call 54; (with_reducible refine (rnumR p 4 l 0 w0 P0.out).mono ?_); rw [H0.out]; rintro x w2 ⟨rfl, hp, hu⟩; have P2 := Lib.hid hp; have Z2 := Lib.hid (Z0.out.upd hu (by have := PG.out; omega)); have B2 := Lib.hid (B0.out.trans (hu.below (Nat.le_of_lt PG.out))); clear hp hu)
    | ((with_reducible refine build_row (o := ⟨some 11, _, _, _, _, _⟩) rfl _ _ rfl (Rc.z 3).cells ?_ ?_); (focus (go_simp; exact built_k _)))
    | ((with_reducible refine alloc_row (o := ⟨some 5, _, _, _, _, _⟩) rfl _ rfl _ RZ.out ?_); intro w3 hr3 hb3 hz3; have E3 := Lib.hid hr3; have GC := Lib.hid (show w.heap.size < w2.heap.size ∧ p < w2.heap.size from ⟨Z2.out.lt, P2.out.lt⟩); have GS := Lib.hid (show w.heap.size ≤ w2.heap.size from B2.out.size); have Z3 := Lib.hid (Z2.out.below hb3 Z2.out.lt); have P3 := Lib.hid (P2.out.mono hb3); have B3 := Lib.hid (B2.out.trans (hb3.mono B2.out.size)); clear hr3 hb3 hz3)
    | ((with_reducible refine store_row (o := ⟨none, _, _, _, _, _⟩) rfl _ (.tmp 5) _ rfl w2.heap.size (Rc.z 3).cells ?_ ?_ 26 _ E3.out ?_ ?_ ?_ ?_); (focus go_simp); (focus (first | (go_simp; done) | (go_simp; rfl))); (focus (exact RS.out)); (focus rfl); (focus (exact rc_one _)); intro w4 hr4 hu4; have E4 := Lib.hid hr4; have Z4 := Lib.hid (Z3.out.upd hu4 (by have := PG.out; have := GC.out; omega)); have P4 := Lib.hid (P3.out.put (by have := PG.out; have := GC.out; omega) E3.out (NB_rc _) hu4); have B4 := Lib.hid (B3.out.trans (hu4.below GS.out)); have c0 := (show w4.cell? ⟨w2.heap.size, 0, none⟩ = some (.int .i64 (3 : Int)) from hr4.q10.1); clear hr4 hu4)
    | (go_at_call 22; refine (ureadE p l1 e1 w4 P4.out ix tm kd dt l2 e2 H1.out).mono ?_; rintro x w5 ⟨xa, xn, xc, rfl, hx, hp, hg⟩; have X5 := Lib.hid hx; have P5 := Lib.hid hp; have E5 := Lib.hid (E4.out.gw hg (by have := PG.out; have := GC.out; omega)); have Z5 := Lib.hid (Z4.out.gw hg (by have := PG.out; have := GC.out; omega)); have B5 := Lib.hid (B4.out.trans (hg.below (Nat.le_of_lt PG.out) B4.out.size)); clear hx hp hg c0)
    | ((with_reducible refine store_part (o := ⟨none, _, _, _, _, _⟩) rfl _ (.tmp 41) _ rfl w2.heap.size 3 (En.cells ⟨ix, tm, kd, xa, xn, xc⟩) ?_ ?_ 26 _ E5.out ?_ ?_ ?_ ?_); (focus go_simp); (focus (first | (go_simp; done) | (go_simp; rfl))); (focus (exact en_size)); (focus (show 3 + 4 ≤ 10; decide)); (focus (exact en_one _)); intro w6 hr6 hu6; have E9 := Lib.hid (show Row w6 w2.heap.size 26 (Rc.cells ⟨3, 0, 0, ⟨ix, tm, kd, xa, xn, xc⟩, 0, 0, none, 0, 0⟩) from hr6); have Z9 := Lib.hid (Z5.out.upd hu6 (by have := PG.out; have := GC.out; omega)); have P9 := Lib.hid (P5.out.put (by have := PG.out; have := GC.out; omega) E5.out (NB_rc _) hu6); have B9 := Lib.hid (B5.out.trans (hu6.below GS.out)); have R9 := Lib.hid (X5.out.put E5.out (NB_rc _) hu6); clear hr6 hu6))
  obtain ⟨F0, hF0⟩ : ∃ x, (⟨3, 0, 0, ix, tm, kd, dt, 0, 0, []⟩ : RF) = x := ⟨_, rfl⟩
  obtain ⟨ea, en, ec, a', n', c', E9, D9, S9⟩ : ∃ ea en ec a' n' c', Hid (Row (w6) w2.heap.size 26 (RF.rc F0 ea en ec a' n' c').cells) ∧ Hid (Rd (w6) ea en ec F0.dt) ∧ Hid (Rd (w6) a' n' c' F0.sn) := by rw [← hF0]; exact ⟨xa, xn, xc, none, 0, 0, E9, R9, Lib.hid (Rd_nil _)⟩
  rw [hF0] at hD
  clear hF0
  obtain ⟨W9, hW9⟩ : ∃ x, w6 = x := ⟨_, rfl⟩
  rw [hW9] at E9 D9 S9 P9 Z9 B9 ⊢
  clear hW9
  have NE := Lib.hid (show w2.heap.size ≠ w.heap.size by have := GC.out; omega)
  obtain ⟨x0, x1, x2, x3, x4, x5, x6, x7, x8, x9⟩ := E9.out.q10
  by_cases he : e2 = 0
  · rw [he] at hD P9
    refine (rerr p l2 0 W9 P9.out).mono ?_
    rintro x w' ⟨rfl, rfl⟩
    obtain ⟨ck, hck⟩ : ∃ x, chkF F0 = x := ⟨_, rfl⟩
    have HCK := Lib.hid hck
    have h01 := chkF01 F0
    rw [hck] at h01
    unfold decV at hD
    dsimp only at hD
    rw [hck] at hD
    clear hck
    rcases h01 with rfl | rfl
    · by_cases hev : endV l2 0 = 0
      · rw [if_pos rfl, if_pos hev] at hD
        obtain ⟨rfl, rfl⟩ := Prod.mk.inj hD
        have HEV := Lib.hid hev
        clear hev hD
        go_wp2_with (first
          | (go_at_call 14; refine (ucheckR (F0.rc ea en ec a' n' c') F0.dt F0.sn W9 D9.out S9.out).mono ?_; rw [chk_eq _ _ _ S9.out.hlen, chkF_of D9.out S9.out, HCK.out]; rintro x w6 ⟨rfl, hb6⟩; have E6 := Lib.hid (E9.out.below hb6 E9.out.lt); have D6 := Lib.hid (D9.out.mono hb6); have S6 := Lib.hid (S9.out.mono hb6); have P6 := Lib.hid (P9.out.mono hb6); have Z6 := Lib.hid (Z9.out.below hb6 Z9.out.lt); have B6 := Lib.hid (B9.out.trans (hb6.mono B9.out.size)); clear hb6)
          | (go_at_call 57; refine (rend p l2 0 w6 P6.out).mono ?_; rw [HEV.out]; rintro x w' ⟨rfl, rfl⟩)
          | ((with_reducible refine load_row (o := ⟨some 63, _, _, _, _, _⟩) rfl _ _ rfl w2.heap.size ?_ _ (F0.rc ea en ec a' n' c').cells _ E6.out Try.underlying26 rfl ?_ ?_); (focus go_simp); (focus (exact RS.out)))
          | ((with_reducible refine store_row (o := ⟨none, _, _, _, _, _⟩) rfl _ (.tmp 2) _ rfl w.heap.size (F0.rc ea en ec a' n' c').cells ?_ ?_ 26 _ Z6.out ?_ ?_ ?_ ?_); (focus go_simp); (focus (first | (go_simp; done) | (go_simp; rfl))); (focus (exact RS.out)); (focus rfl); (focus (exact rc_one _)); intro wz hr10 hu10; have Ez := Lib.hid hr10; have D10 := Lib.hid (D6.out.put Z6.out (NB_rc _) hu10); have S10 := Lib.hid (S6.out.put Z6.out (NB_rc _) hu10); have Bz := Lib.hid (B6.out.trans (hu10.below (Nat.le_refl _))); clear hr10 hu10))
        exact bodyPost_ret (results_row_tmp rfl _ _ w.heap.size 26 _ _ _ (by go_simp) Ez.out Try.underlying26 rfl RS.out) rfl ⟨ea, en, ec, a', n', c', rfl, D10.out, S10.out, Bz.out⟩
      · rw [if_pos rfl, if_neg hev] at hD
        obtain ⟨ev, hq⟩ : ∃ x, endV l2 0 = x := ⟨_, rfl⟩
        rw [hq] at hD hev
        obtain ⟨rfl, rfl⟩ := Prod.mk.inj hD
        have HEV := Lib.hid hq
        have hne : (ev != 0) = true := by rw [bne_iff_ne]; exact hev
        clear hev hD hq
        go_wp2_with (first
          | (go_at_call 14; refine (ucheckR (F0.rc ea en ec a' n' c') F0.dt F0.sn W9 D9.out S9.out).mono ?_; rw [chk_eq _ _ _ S9.out.hlen, chkF_of D9.out S9.out, HCK.out]; rintro x w6 ⟨rfl, hb6⟩; have E6 := Lib.hid (E9.out.below hb6 E9.out.lt); have D6 := Lib.hid (D9.out.mono hb6); have S6 := Lib.hid (S9.out.mono hb6); have P6 := Lib.hid (P9.out.mono hb6); have Z6 := Lib.hid (Z9.out.below hb6 Z9.out.lt); have B6 := Lib.hid (B9.out.trans (hb6.mono B9.out.size)); clear hb6)
          | (go_at_call 57; refine (rend p l2 0 w6 P6.out).mono ?_; rw [HEV.out]; rintro x w' ⟨rfl, rfl⟩)
          | ((with_reducible refine build_row (o := ⟨some 61, _, _, _, _, _⟩) rfl _ _ rfl (Rc.z 0).cells ?_ ?_); (focus (go_simp; exact built_r0)))
          | ((with_reducible refine store_row (o := ⟨none, _, _, _, _, _⟩) rfl _ (.tmp 2) _ rfl w.heap.size (Rc.z 0).cells ?_ ?_ 26 _ Z6.out ?_ ?_ ?_ ?_); (focus go_simp); (focus (first | (go_simp; done) | (go_simp; rfl))); (focus (exact RS.out)); (focus rfl); (focus (exact rc_one _)); intro wz hr10 hu10; have Ez := Lib.hid hr10; have Bz := Lib.hid (B6.out.trans (hu10.below (Nat.le_refl _))); clear hr10 hu10))
        exact bodyPost_ret (results_row_tmp rfl _ _ w.heap.size 26 _ _ _ (by go_simp) Ez.out Try.underlying26 rfl RS.out) rfl ⟨none, 0, 0, none, 0, 0, rfl, Rd_nil _, Rd_nil _, Bz.out⟩
    · rw [if_neg (by decide)] at hD
      obtain ⟨ev, hq⟩ : ∃ x, failE 0 3 = x := ⟨_, rfl⟩
      have hne0 : ev ≠ 0 := by rw [← hq]; exact failE_ne 0
      rw [hq] at hD
      obtain ⟨rfl, rfl⟩ := Prod.mk.inj hD
      have HEV := Lib.hid hq
      have hne : (ev != 0) = true := by rw [bne_iff_ne]; exact hne0
      clear hD hq hne0
      go_wp2_with (first
        | (go_at_call 14; refine (ucheckR (F0.rc ea en ec a' n' c') F0.dt F0.sn W9 D9.out S9.out).mono ?_; rw [chk_eq _ _ _ S9.out.hlen, chkF_of D9.out S9.out, HCK.out]; rintro x w6 ⟨rfl, hb6⟩; have E6 := Lib.hid (E9.out.below hb6 E9.out.lt); have D6 := Lib.hid (D9.out.mono hb6); have S6 := Lib.hid (S9.out.mono hb6); have P6 := Lib.hid (P9.out.mono hb6); have Z6 := Lib.hid (Z9.out.below hb6 Z9.out.lt); have B6 := Lib.hid (B9.out.trans (hb6.mono B9.out.size)); clear hb6)
        | (go_at_call 56; refine (rfail p l2 0 3 w6 P6.out).mono ?_; rintro x w7 ⟨rfl, hp7, hu7⟩; have P7 := Lib.hid hp7; have Z7 := Lib.hid (Z6.out.upd hu7 (by have := PG.out; omega)); have B7 := Lib.hid (B6.out.trans (hu7.below (Nat.le_of_lt PG.out))); clear hp7 hu7)
        | (go_at_call 57; refine (rend p _ _ w7 P7.out).mono ?_; rw [endF, HEV.out]; rintro x w' ⟨rfl, rfl⟩)
        | ((with_reducible refine build_row (o := ⟨some 61, _, _, _, _, _⟩) rfl _ _ rfl (Rc.z 0).cells ?_ ?_); (focus (go_simp; exact built_r0)))
        | ((with_reducible refine store_row (o := ⟨none, _, _, _, _, _⟩) rfl _ (.tmp 2) _ rfl w.heap.size (Rc.z 0).cells ?_ ?_ 26 _ Z7.out ?_ ?_ ?_ ?_); (focus go_simp); (focus (first | (go_simp; done) | (go_simp; rfl))); (focus (exact RS.out)); (focus rfl); (focus (exact rc_one _)); intro wz hr10 hu10; have Ez := Lib.hid hr10; have Bz := Lib.hid (B7.out.trans (hu10.below (Nat.le_refl _))); clear hr10 hu10))
      exact bodyPost_ret (results_row_tmp rfl _ _ w.heap.size 26 _ _ _ (by go_simp) Ez.out Try.underlying26 rfl RS.out) rfl ⟨none, 0, 0, none, 0, 0, rfl, Rd_nil _, Rd_nil _, Bz.out⟩
  · refine (rerr p l2 e2 W9 P9.out).mono ?_
    rintro x w' ⟨rfl, rfl⟩
    rw [decV_err he] at hD
    obtain ⟨rfl, rfl⟩ := Prod.mk.inj hD
    have HEV := Lib.hid (endE (l := l2) he)
    have hne : (e2 != 0) = true := by rw [bne_iff_ne]; exact he
    have hne2 : (e2 == 0) = false := by simpa using he
    go_wp2_with (first
      | (go_at_call 57; refine (rend p l2 e2 W9 P9.out).mono ?_; rw [HEV.out]; rintro x w' ⟨rfl, rfl⟩)
      | ((with_reducible refine build_row (o := ⟨some 61, _, _, _, _, _⟩) rfl _ _ rfl (Rc.z 0).cells ?_ ?_); (focus (go_simp; exact built_r0)))
      | ((with_reducible refine store_row (o := ⟨none, _, _, _, _, _⟩) rfl _ (.tmp 2) _ rfl w.heap.size (Rc.z 0).cells ?_ ?_ 26 _ Z9.out ?_ ?_ ?_ ?_); (focus go_simp); (focus (first | (go_simp; done) | (go_simp; rfl))); (focus (exact RS.out)); (focus rfl); (focus (exact rc_one _)); intro wz hr10 hu10; have Ez := Lib.hid hr10; have Bz := Lib.hid (B9.out.trans (hu10.below (Nat.le_refl _))); clear hr10 hu10))
    exact bodyPost_ret (results_row_tmp rfl _ _ w.heap.size 26 _ _ _ (by go_simp) Ez.out Try.underlying26 rfl RS.out) rfl ⟨none, 0, 0, none, 0, 0, rfl, Rd_nil _, Rd_nil _, Bz.out⟩
set_option maxRecDepth 100000 in
set_option maxHeartbeats 16000000 in
theorem udec1 (a : Option Addr) (n c : Nat) (l : List UInt8) (w : World) (h : Rd w a n c l) (hm : n ≤ 140737488355000) (l1 : List UInt8) (e1 : Int) (h0 : numR 4 l 0 = (1, l1, e1)) (F : RF) (v : Int) (hD : decV (rdK 1 l1 e1) = (F, v)) :
    Calls Try.prog 18 #[.slice a n c] w fun x w' => ∃ ea en ec a' n' c', x = .returned (.tuple #[.agg (F.rc ea en ec a' n' c').cells.toArray, .int .i64 v]) ∧ Rd w' ea en ec F.dt ∧ Rd w' a' n' c' F.sn ∧ Below w.heap.size w w' := by
  have HL := Lib.hid h
  have H0 := Lib.hid h0
  have RZ := Lib.hid rc_zero
  have RS := Lib.hid rc_size
  clear h h0
  obtain ⟨N1, l2, e2, h1⟩ : ∃ x y z, numR 2147483648 l1 e1 = (x, y, z) := ⟨_, _, _, rfl⟩
  obtain ⟨N2, l3, e3, h2⟩ : ∃ x y z, numR 2147483648 l2 e2 = (x, y, z) := ⟨_, _, _, rfl⟩
  obtain ⟨N3, l4, e4, h3⟩ : ∃ x y z, numR 127 l3 e3 = (x, y, z) := ⟨_, _, _, rfl⟩
  obtain ⟨tx, l5, e5, h4⟩ : ∃ x y z, textR 131072 l4 e4 = (x, y, z) := ⟨_, _, _, rfl⟩
  obtain ⟨t4, ht4⟩ : ∃ t4, str tx = t4 := ⟨_, rfl⟩
  have hK : rdK 1 l1 e1 = (⟨1, N2, 0, 0, 0, 0, [], N1, N3, tx⟩, l5, e5) := by rw [rdK, if_pos rfl, rd1, h1]; dsimp only; rw [h2]; dsimp only; rw [h3]; dsimp only; rw [h4]
  rw [hK] at hD
  have htz : t4.data.toList = tx := by rw [← ht4]; rfl
  have hts : t4.size ≤ 140737488355000 := by
    have hq : t4.size = tx.length := by rw [← htz]; simp
    rw [hq]
    have := text_small 131072 (by decide) l4 e4
    rw [h4] at this; exact this
  have H1 := Lib.hid h1
  have H2 := Lib.hid h2
  have H3 := Lib.hid h3
  have H4 := Lib.hid h4
  have HT4 := Lib.hid ht4
  have HTZ := Lib.hid htz
  have HTS := Lib.hid hts
  clear h1 h2 h3 h4 ht4 htz hts hK
  go_enter Try.func18, Try.ntmps18
  go_wp2_with (first
    | ((with_reducible refine alloc_row (o := ⟨some 2, _, _, _, _, _⟩) rfl _ rfl _ RZ.out ?_); intro w1 hr1 hb1 hz1; have Z1 := Lib.hid hr1; have B1 := Lib.hid hb1; clear hr1 hb1 hz1)
    | (go_at_call 20; refine (ropen a n c l w1 (HL.out.mono B1.out) hm).mono ?_; rintro x w0 ⟨p, rfl, hp0, hp2, hb2⟩; have P0 := Lib.hid hp2; have PG := Lib.hid (show w.heap.size < p from Nat.lt_of_lt_of_le Z1.out.lt hp0); have Z0 := Lib.hid (Z1.out.below hb2 Z1.out.lt); have B0 := Lib.hid (B1.out.trans (hb2.mono B1.out.size)); clear hp0 hp2 hb2)
    | (go_at_call 54; (with_reducible refine (rnumR p 4 l 0 w0 P0.out).mono ?_); rw [H0.out]; rintro x w2 ⟨rfl, hp, hu⟩; have P2 := Lib.hid hp; have Z2 := Lib.hid (Z0.out.upd hu (by have := PG.out; omega)); have B2 := Lib.hid (B0.out.trans (hu.below (Nat.le_of_lt PG.out))); clear hp hu)
    | ((with_reducible refine build_row (o := ⟨some 11, _, _, _, _, _⟩) rfl _ _ rfl (Rc.z 1).cells ?_ ?_); (focus (go_simp; exact built_k _)))
    | ((with_reducible refine alloc_row (o := ⟨some 5, _, _, _, _, _⟩) rfl _ rfl _ RZ.out ?_); intro w3 hr3 hb3 hz3; have E3 := Lib.hid hr3; have GC := Lib.hid (show w.heap.size < w2.heap.size ∧ p < w2.heap.size from ⟨Z2.out.lt, P2.out.lt⟩); have GS := Lib.hid (show w.heap.size ≤ w2.heap.size from B2.out.size); have Z3 := Lib.hid (Z2.out.below hb3 Z2.out.lt); have P3 := Lib.hid (P2.out.mono hb3); have B3 := Lib.hid (B2.out.trans (hb3.mono B2.out.size)); clear hr3 hb3 hz3)
    | ((with_reducible refine store_row (o := ⟨none, _, _, _, _, _⟩) rfl _ (.tmp 5) _ rfl w2.heap.size (Rc.z 1).cells ?_ ?_ 26 _ E3.out ?_ ?_ ?_ ?_); (focus go_simp); (focus (first | (go_simp; done) | (go_simp; rfl))); (focus (exact RS.out)); (focus rfl); (focus (exact rc_one _)); intro w4 hr4 hu4; have E4 := Lib.hid hr4; have Z4 := Lib.hid (Z3.out.upd hu4 (by have := PG.out; have := GC.out; omega)); have P4 := Lib.hid (P3.out.put (by have := PG.out; have := GC.out; omega) E3.out (NB_rc _) hu4); have B4 := Lib.hid (B3.out.trans (hu4.below GS.out)); have c0 := (show w4.cell? ⟨w2.heap.size, 0, none⟩ = some (.int .i64 (1 : Int)) from hr4.q10.1); clear hr4 hu4)
    | (go_at_call 54; (with_reducible refine (rnumR p 2147483648 l1 e1 (w4) P4.out).mono ?_); rw [H1.out]; rintro x w5 ⟨rfl, hp, hu⟩; have P5 := Lib.hid hp; have E5 := Lib.hid (E4.out.upd hu (by have := PG.out; have := GC.out; omega)); have Z5 := Lib.hid (Z4.out.upd hu (by have := PG.out; have := GC.out; omega)); have B5 := Lib.hid (B4.out.trans (hu.below (Nat.le_of_lt PG.out))); have Uq := Lib.hid (Upd.setCell (w5) w2.heap.size 7 (.int .i64 N1)); have Ea := Lib.hid (show Row ((w5).setCell ⟨w2.heap.size, 7, none⟩ (.int .i64 N1)) w2.heap.size 26 (Rc.cells ⟨1, 0, 0, ⟨0, 0, 0, none, 0, 0⟩, N1, 0, none, 0, 0⟩) from (E5.out).setV 7 (.int .i64 N1)); have Pa := Lib.hid (P5.out.put (by have := PG.out; have := GC.out; omega) E5.out (NB_rc _) Uq.out); have Za := Lib.hid (Z5.out.upd Uq.out (by have := PG.out; have := GC.out; omega)); have Ba := Lib.hid (B5.out.trans (Uq.out.below GS.out)); have f7 := E5.out.frozen 7; obtain ⟨d0, d1, d2, d3, d4, d5, d6, d7, d8, d9⟩ := E5.out.q10; clear Uq hp hu c0)
    | (go_at_call 54; (with_reducible refine (rnumR p 2147483648 l2 e2 ((w5).setCell ⟨w2.heap.size, 7, none⟩ (.int .i64 N1)) Pa.out).mono ?_); rw [H2.out]; rintro x w6 ⟨rfl, hp, hu⟩; have P6 := Lib.hid hp; have E6 := Lib.hid (Ea.out.upd hu (by have := PG.out; have := GC.out; omega)); have Z6 := Lib.hid (Za.out.upd hu (by have := PG.out; have := GC.out; omega)); have B6 := Lib.hid (Ba.out.trans (hu.below (Nat.le_of_lt PG.out))); have Uq := Lib.hid (Upd.setCell (w6) w2.heap.size 1 (.int .i64 N2)); have Eb := Lib.hid (show Row ((w6).setCell ⟨w2.heap.size, 1, none⟩ (.int .i64 N2)) w2.heap.size 26 (Rc.cells ⟨1, N2, 0, ⟨0, 0, 0, none, 0, 0⟩, N1, 0, none, 0, 0⟩) from (E6.out).setV 1 (.int .i64 N2)); have Pb := Lib.hid (P6.out.put (by have := PG.out; have := GC.out; omega) E6.out (NB_rc _) Uq.out); have Zb := Lib.hid (Z6.out.upd Uq.out (by have := PG.out; have := GC.out; omega)); have Bb := Lib.hid (B6.out.trans (Uq.out.below GS.out)); have f1 := E6.out.frozen 1; clear f7 d0 d1 d2 d3 d4 d5 d6 d7 d8 d9; obtain ⟨d0, d1, d2, d3, d4, d5, d6, d7, d8, d9⟩ := E6.out.q10; clear Uq hp hu)
    | (go_at_call 54; (with_reducible refine (rnumR p 127 l3 e3 ((w6).setCell ⟨w2.heap.size, 1, none⟩ (.int .i64 N2)) Pb.out).mono ?_); rw [H3.out]; rintro x w7 ⟨rfl, hp, hu⟩; have P7 := Lib.hid hp; have E7 := Lib.hid (Eb.out.upd hu (by have := PG.out; have := GC.out; omega)); have Z7 := Lib.hid (Zb.out.upd hu (by have := PG.out; have := GC.out; omega)); have B7 := Lib.hid (Bb.out.trans (hu.below (Nat.le_of_lt PG.out))); have Uq := Lib.hid (Upd.setCell (w7) w2.heap.size 8 (.int .i64 N3)); have Ed := Lib.hid (show Row ((w7).setCell ⟨w2.heap.size, 8, none⟩ (.int .i64 N3)) w2.heap.size 26 (Rc.cells ⟨1, N2, 0, ⟨0, 0, 0, none, 0, 0⟩, N1, N3, none, 0, 0⟩) from (E7.out).setV 8 (.int .i64 N3)); have Pd := Lib.hid (P7.out.put (by have := PG.out; have := GC.out; omega) E7.out (NB_rc _) Uq.out); have Zd := Lib.hid (Z7.out.upd Uq.out (by have := PG.out; have := GC.out; omega)); have Bd := Lib.hid (B7.out.trans (Uq.out.below GS.out)); have f8 := E7.out.frozen 8; clear f1 d0 d1 d2 d3 d4 d5 d6 d7 d8 d9; obtain ⟨d0, d1, d2, d3, d4, d5, d6, d7, d8, d9⟩ := E7.out.q10; clear Uq hp hu)
    | (go_at_call 55; (with_reducible refine (rtextR p 131072 l4 e4 ((w7).setCell ⟨w2.heap.size, 8, none⟩ (.int .i64 N3)) Pd.out).mono ?_); rw [H4.out]; dsimp only; rw [HT4.out]; rintro x w8 ⟨rfl, hp, hu⟩; have P8 := Lib.hid hp; have E8 := Lib.hid (Ed.out.upd hu (by have := PG.out; have := GC.out; omega)); have Z8 := Lib.hid (Zd.out.upd hu (by have := PG.out; have := GC.out; omega)); have B8 := Lib.hid (Bd.out.trans (hu.below (Nat.le_of_lt PG.out))); clear hp hu f8 d0 d1 d2 d3 d4 d5 d6 d7 d8 d9)
    | ((with_reducible refine conv_frx (o := ⟨some 27, _, _, _, _, _⟩) rfl _ rfl t4 ?_ ?_ ?_); (focus go_simp); (focus (have := HTS.out; unfold maxLen; omega)); intro w9 v8 hf8 hb8; rw [HTZ.out] at hf8; obtain ⟨a8, c8, hv8, hr8⟩ := hf8.form' tx.length rfl; subst hv8; have Ry := Lib.hid hr8; have Zy := Lib.hid (Z8.out.below hb8 Z8.out.lt); have Ey := Lib.hid (E8.out.below hb8 E8.out.lt); have Py := Lib.hid (P8.out.mono hb8); have By := Lib.hid (B8.out.trans (hb8.mono B8.out.size)); have Uq := Lib.hid (Upd.setCell (w9) w2.heap.size 9 (.slice a8 tx.length c8)); have E9 := Lib.hid (show Row ((w9).setCell ⟨w2.heap.size, 9, none⟩ (.slice a8 tx.length c8)) w2.heap.size 26 (Rc.cells ⟨1, N2, 0, ⟨0, 0, 0, none, 0, 0⟩, N1, N3, a8, tx.length, c8⟩) from (Ey.out).setV 9 (.slice a8 tx.length c8)); have P9 := Lib.hid (Py.out.put (by have := PG.out; have := GC.out; omega) Ey.out (NB_rc _) Uq.out); have Z9 := Lib.hid (Zy.out.upd Uq.out (by have := PG.out; have := GC.out; omega)); have B9 := Lib.hid (By.out.trans (Uq.out.below GS.out)); have R9 := Lib.hid (Ry.out.put Ey.out (NB_rc _) Uq.out); have f9 := Ey.out.frozen 9; obtain ⟨d0, d1, d2, d3, d4, d5, d6, d7, d8, d9⟩ := Ey.out.q10; clear Uq hf8 hb8 hr8))
  obtain ⟨F0, hF0⟩ : ∃ x, (⟨1, (N2 : Int), 0, 0, 0, 0, [], (N1 : Int), (N3 : Int), tx⟩ : RF) = x := ⟨_, rfl⟩
  obtain ⟨ea, en, ec, a', n', c', E9, D9, S9⟩ : ∃ ea en ec a' n' c', Hid (Row ((w9).setCell ⟨w2.heap.size, 9, none⟩ (.slice a8 tx.length c8)) w2.heap.size 26 (RF.rc F0 ea en ec a' n' c').cells) ∧ Hid (Rd ((w9).setCell ⟨w2.heap.size, 9, none⟩ (.slice a8 tx.length c8)) ea en ec F0.dt) ∧ Hid (Rd ((w9).setCell ⟨w2.heap.size, 9, none⟩ (.slice a8 tx.length c8)) a' n' c' F0.sn) := by rw [← hF0]; exact ⟨none, 0, 0, a8, tx.length, c8, E9, Lib.hid (Rd_nil _), R9⟩
  rw [hF0] at hD
  clear hF0
  obtain ⟨W9, hW9⟩ : ∃ x, (w9).setCell ⟨w2.heap.size, 9, none⟩ (.slice a8 tx.length c8) = x := ⟨_, rfl⟩
  rw [hW9] at E9 D9 S9 P9 Z9 B9 ⊢
  clear hW9 f9 d0 d1 d2 d3 d4 d5 d6 d7 d8 d9
  have NE := Lib.hid (show w2.heap.size ≠ w.heap.size by have := GC.out; omega)
  obtain ⟨x0, x1, x2, x3, x4, x5, x6, x7, x8, x9⟩ := E9.out.q10
  by_cases he : e5 = 0
  · rw [he] at hD P9
    refine (rerr p l5 0 W9 P9.out).mono ?_
    rintro x w' ⟨rfl, rfl⟩
    obtain ⟨ck, hck⟩ : ∃ x, chkF F0 = x := ⟨_, rfl⟩
    have HCK := Lib.hid hck
    have h01 := chkF01 F0
    rw [hck] at h01
    unfold decV at hD
    dsimp only at hD
    rw [hck] at hD
    clear hck
    rcases h01 with rfl | rfl
    · by_cases hev : endV l5 0 = 0
      · rw [if_pos rfl, if_pos hev] at hD
        obtain ⟨rfl, rfl⟩ := Prod.mk.inj hD
        have HEV := Lib.hid hev
        clear hev hD
        go_wp2_with (first
          | (go_at_call 14; refine (ucheckR (F0.rc ea en ec a' n' c') F0.dt F0.sn W9 D9.out S9.out).mono ?_; rw [chk_eq _ _ _ S9.out.hlen, chkF_of D9.out S9.out, HCK.out]; rintro x w6 ⟨rfl, hb6⟩; have E6 := Lib.hid (E9.out.below hb6 E9.out.lt); have D6 := Lib.hid (D9.out.mono hb6); have S6 := Lib.hid (S9.out.mono hb6); have P6 := Lib.hid (P9.out.mono hb6); have Z6 := Lib.hid (Z9.out.below hb6 Z9.out.lt); have B6 := Lib.hid (B9.out.trans (hb6.mono B9.out.size)); clear hb6)
          | (go_at_call 57; refine (rend p l5 0 w6 P6.out).mono ?_; rw [HEV.out]; rintro x w' ⟨rfl, rfl⟩)
          | ((with_reducible refine load_row (o := ⟨some 63, _, _, _, _, _⟩) rfl _ _ rfl w2.heap.size ?_ _ (F0.rc ea en ec a' n' c').cells _ E6.out Try.underlying26 rfl ?_ ?_); (focus go_simp); (focus (exact RS.out)))
          | ((with_reducible refine store_row (o := ⟨none, _, _, _, _, _⟩) rfl _ (.tmp 2) _ rfl w.heap.size (F0.rc ea en ec a' n' c').cells ?_ ?_ 26 _ Z6.out ?_ ?_ ?_ ?_); (focus go_simp); (focus (first | (go_simp; done) | (go_simp; rfl))); (focus (exact RS.out)); (focus rfl); (focus (exact rc_one _)); intro wz hr10 hu10; have Ez := Lib.hid hr10; have D10 := Lib.hid (D6.out.put Z6.out (NB_rc _) hu10); have S10 := Lib.hid (S6.out.put Z6.out (NB_rc _) hu10); have Bz := Lib.hid (B6.out.trans (hu10.below (Nat.le_refl _))); clear hr10 hu10))
        exact bodyPost_ret (results_row_tmp rfl _ _ w.heap.size 26 _ _ _ (by go_simp) Ez.out Try.underlying26 rfl RS.out) rfl ⟨ea, en, ec, a', n', c', rfl, D10.out, S10.out, Bz.out⟩
      · rw [if_pos rfl, if_neg hev] at hD
        obtain ⟨ev, hq⟩ : ∃ x, endV l5 0 = x := ⟨_, rfl⟩
        rw [hq] at hD hev
        obtain ⟨rfl, rfl⟩ := Prod.mk.inj hD
        have HEV := Lib.hid hq
        have hne : (ev != 0) = true := by rw [bne_iff_ne]; exact hev
        clear hev hD hq
        go_wp2_with (first
          | (go_at_call 14; refine (ucheckR (F0.rc ea en ec a' n' c') F0.dt F0.sn W9 D9.out S9.out).mono ?_; rw [chk_eq _ _ _ S9.out.hlen, chkF_of D9.out S9.out, HCK.out]; rintro x w6 ⟨rfl, hb6⟩; have E6 := Lib.hid (E9.out.below hb6 E9.out.lt); have D6 := Lib.hid (D9.out.mono hb6); have S6 := Lib.hid (S9.out.mono hb6); have P6 := Lib.hid (P9.out.mono hb6); have Z6 := Lib.hid (Z9.out.below hb6 Z9.out.lt); have B6 := Lib.hid (B9.out.trans (hb6.mono B9.out.size)); clear hb6)
          | (go_at_call 57; refine (rend p l5 0 w6 P6.out).mono ?_; rw [HEV.out]; rintro x w' ⟨rfl, rfl⟩)
          | ((with_reducible refine build_row (o := ⟨some 61, _, _, _, _, _⟩) rfl _ _ rfl (Rc.z 0).cells ?_ ?_); (focus (go_simp; exact built_r0)))
          | ((with_reducible refine store_row (o := ⟨none, _, _, _, _, _⟩) rfl _ (.tmp 2) _ rfl w.heap.size (Rc.z 0).cells ?_ ?_ 26 _ Z6.out ?_ ?_ ?_ ?_); (focus go_simp); (focus (first | (go_simp; done) | (go_simp; rfl))); (focus (exact RS.out)); (focus rfl); (focus (exact rc_one _)); intro wz hr10 hu10; have Ez := Lib.hid hr10; have Bz := Lib.hid (B6.out.trans (hu10.below (Nat.le_refl _))); clear hr10 hu10))
        exact bodyPost_ret (results_row_tmp rfl _ _ w.heap.size 26 _ _ _ (by go_simp) Ez.out Try.underlying26 rfl RS.out) rfl ⟨none, 0, 0, none, 0, 0, rfl, Rd_nil _, Rd_nil _, Bz.out⟩
    · rw [if_neg (by decide)] at hD
      obtain ⟨ev, hq⟩ : ∃ x, failE 0 3 = x := ⟨_, rfl⟩
      have hne0 : ev ≠ 0 := by rw [← hq]; exact failE_ne 0
      rw [hq] at hD
      obtain ⟨rfl, rfl⟩ := Prod.mk.inj hD
      have HEV := Lib.hid hq
      have hne : (ev != 0) = true := by rw [bne_iff_ne]; exact hne0
      clear hD hq hne0
      go_wp2_with (first
        | (go_at_call 14; refine (ucheckR (F0.rc ea en ec a' n' c') F0.dt F0.sn W9 D9.out S9.out).mono ?_; rw [chk_eq _ _ _ S9.out.hlen, chkF_of D9.out S9.out, HCK.out]; rintro x w6 ⟨rfl, hb6⟩; have E6 := Lib.hid (E9.out.below hb6 E9.out.lt); have D6 := Lib.hid (D9.out.mono hb6); have S6 := Lib.hid (S9.out.mono hb6); have P6 := Lib.hid (P9.out.mono hb6); have Z6 := Lib.hid (Z9.out.below hb6 Z9.out.lt); have B6 := Lib.hid (B9.out.trans (hb6.mono B9.out.size)); clear hb6)
        | (go_at_call 56; refine (rfail p l5 0 3 w6 P6.out).mono ?_; rintro x w7 ⟨rfl, hp7, hu7⟩; have P7 := Lib.hid hp7; have Z7 := Lib.hid (Z6.out.upd hu7 (by have := PG.out; omega)); have B7 := Lib.hid (B6.out.trans (hu7.below (Nat.le_of_lt PG.out))); clear hp7 hu7)
        | (go_at_call 57; refine (rend p _ _ w7 P7.out).mono ?_; rw [endF, HEV.out]; rintro x w' ⟨rfl, rfl⟩)
        | ((with_reducible refine build_row (o := ⟨some 61, _, _, _, _, _⟩) rfl _ _ rfl (Rc.z 0).cells ?_ ?_); (focus (go_simp; exact built_r0)))
        | ((with_reducible refine store_row (o := ⟨none, _, _, _, _, _⟩) rfl _ (.tmp 2) _ rfl w.heap.size (Rc.z 0).cells ?_ ?_ 26 _ Z7.out ?_ ?_ ?_ ?_); (focus go_simp); (focus (first | (go_simp; done) | (go_simp; rfl))); (focus (exact RS.out)); (focus rfl); (focus (exact rc_one _)); intro wz hr10 hu10; have Ez := Lib.hid hr10; have Bz := Lib.hid (B7.out.trans (hu10.below (Nat.le_refl _))); clear hr10 hu10))
      exact bodyPost_ret (results_row_tmp rfl _ _ w.heap.size 26 _ _ _ (by go_simp) Ez.out Try.underlying26 rfl RS.out) rfl ⟨none, 0, 0, none, 0, 0, rfl, Rd_nil _, Rd_nil _, Bz.out⟩
  · refine (rerr p l5 e5 W9 P9.out).mono ?_
    rintro x w' ⟨rfl, rfl⟩
    rw [decV_err he] at hD
    obtain ⟨rfl, rfl⟩ := Prod.mk.inj hD
    have HEV := Lib.hid (endE (l := l5) he)
    have hne : (e5 != 0) = true := by rw [bne_iff_ne]; exact he
    have hne2 : (e5 == 0) = false := by simpa using he
    go_wp2_with (first
      | (go_at_call 57; refine (rend p l5 e5 W9 P9.out).mono ?_; rw [HEV.out]; rintro x w' ⟨rfl, rfl⟩)
      | ((with_reducible refine build_row (o := ⟨some 61, _, _, _, _, _⟩) rfl _ _ rfl (Rc.z 0).cells ?_ ?_); (focus (go_simp; exact built_r0)))
      | ((with_reducible refine store_row (o := ⟨none, _, _, _, _, _⟩) rfl _ (.tmp 2) _ rfl w.heap.size (Rc.z 0).cells ?_ ?_ 26 _ Z9.out ?_ ?_ ?_ ?_); (focus go_simp); (focus (first | (go_simp; done) | (go_simp; rfl))); (focus (exact RS.out)); (focus rfl); (focus (exact rc_one _)); intro wz hr10 hu10; have Ez := Lib.hid hr10; have Bz := Lib.hid (B9.out.trans (hu10.below (Nat.le_refl _))); clear hr10 hu10))
    exact bodyPost_ret (results_row_tmp rfl _ _ w.heap.size 26 _ _ _ (by go_simp) Ez.out Try.underlying26 rfl RS.out) rfl ⟨none, 0, 0, none, 0, 0, rfl, Rd_nil _, Rd_nil _, Bz.out⟩
theorem udecode (a : Option Addr) (n c : Nat) (l : List UInt8) (w : World) (h : Rd w a n c l) (hm : n ≤ 140737488355000) (F : RF) (v : Int) (hD : decV (rdR l 0) = (F, v)) :
    Calls Try.prog 18 #[.slice a n c] w fun x w' => ∃ ea en ec a' n' c', x = .returned (.tuple #[.agg (F.rc ea en ec a' n' c').cells.toArray, .int .i64 v]) ∧ Rd w' ea en ec F.dt ∧ Rd w' a' n' c' F.sn ∧ Below w.heap.size w w' := by
  obtain ⟨k, l1, e1, h0⟩ : ∃ x y z, numR 4 l 0 = (x, y, z) := ⟨_, _, _, rfl⟩
  have hq : decV (rdK k l1 e1) = (F, v) := by rw [← hD, rdR, h0]
  by_cases k1 : k = 1
  · subst k1; exact udec1 a n c l w h hm l1 e1 h0 F v hq
  by_cases k2 : k = 2
  · subst k2; exact udec2 a n c l w h hm l1 e1 h0 F v hq
  by_cases k3 : k = 3
  · subst k3; exact udec3 a n c l w h hm l1 e1 h0 F v hq
  by_cases k4 : k = 4
  · subst k4; exact udec4 a n c l w h hm l1 e1 h0 F v hq
  exact udec0 a n c l w h hm k l1 e1 h0 ⟨k1, k2, k3, k4⟩ F v hq
end Go.Proofs.Ytggmindkpfpmhaa.W
