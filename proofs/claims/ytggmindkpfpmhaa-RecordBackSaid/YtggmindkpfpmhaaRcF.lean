/- LAYER 11 (record): Decode of the program. -/
import Derived.Test.YtggmindkpfpmhaaRcD
import Derived.Test.YtggmindkpfpmhaaRcC
set_option linter.unusedSimpArgs false
set_option linter.unusedVariables false
namespace Go.Proofs.Ytggmindkpfpmhaa.W
open Go Go.ChangeShapes Go.WideShapes Go.ChangeAt Go.RowKit
open Go.Proofs.Ytggmindkpfpmhaa.P (enc dec)

theorem chk_any (F : RF) (ea : Option Addr) (en ec : Nat) (a : Option Addr) (n c : Nat) (l s : List UInt8) : chkR (F.rc ea en ec a n c) l s = chkR (F.rc none en 0 none n 0) l s := by
  obtain ⟨k, t, v, ix, tm, kd, dt, i, f, sn⟩ := F
  have h1 : fitsR (RF.rc ⟨k, t, v, ix, tm, kd, dt, i, f, sn⟩ ea en ec a n c) = fitsR (RF.rc ⟨k, t, v, ix, tm, kd, dt, i, f, sn⟩ none en 0 none n 0) := rfl
  have h2 : selfR (RF.rc ⟨k, t, v, ix, tm, kd, dt, i, f, sn⟩ ea en ec a n c) l s = selfR (RF.rc ⟨k, t, v, ix, tm, kd, dt, i, f, sn⟩ none en 0 none n 0) l s := by
    unfold selfR RF.rc
    rcases kinds k with rfl | rfl | rfl | rfl | ⟨k1, k2, k3, k4⟩
    · rfl
    · rfl
    · rfl
    · rfl
    · have n1 : ¬ k = 1 := by simpa using k1
      have n2 : ¬ k = 2 := by simpa using k2
      have n3 : ¬ k = 3 := by simpa using k3
      have n4 : ¬ k = 4 := by simpa using k4
      unfold Rc.own
      dsimp only
      simp only [if_neg n1, if_neg n2, if_neg n3, if_neg n4]
      rfl
  unfold chkR
  rw [h1, h2]
def chkF (F : RF) : Int := chkR (F.rc none F.dt.length 0 none F.sn.length 0) F.dt F.sn
theorem chkF_of {w : World} {F : RF} {ea a : Option Addr} {en ec n c : Nat} (h : Rd w ea en ec F.dt) (k : Rd w a n c F.sn) : chkR (F.rc ea en ec a n c) F.dt F.sn = chkF F := by
  rw [chk_any]; unfold chkF; rw [h.hlen, k.hlen]
theorem chkF01 (F : RF) : chkF F = 0 ∨ chkF F = 1 := by unfold chkF chkR; split <;> simp
/-- what is answered of what was read -/
def decV (q : RF × List UInt8 × Int) : RF × Int :=
  if chkF q.1 = 0 then (if endV q.2.1 q.2.2 = 0 then (q.1, 0) else (RF.z 0, endV q.2.1 q.2.2)) else (RF.z 0, failE q.2.2 3)
theorem endF (l : List UInt8) (e : Int) : endV (failL l e 3) (failE e 3) = failE e 3 := by unfold endV; rw [if_pos (failE_ne e)]
theorem endE {l : List UInt8} {e : Int} (h : e ≠ 0) : endV l e = e := by unfold endV; rw [if_pos h]
theorem failN {e : Int} (h : e ≠ 0) : failE e 3 = e := by unfold failE; rw [if_pos (.inl h)]
theorem built_r0 : Try.prog.built 26 [] = some (Rc.z 0).cells.toArray := by kernel_rfl
set_option maxRecDepth 100000 in
set_option maxHeartbeats 8000000 in
theorem rdecode (a : Option Addr) (n c : Nat) (l : List UInt8) (w : World) (h : Rd w a n c l) (hm : n ≤ 140737488355000) (F : RF) (v : Int) (hD : decV (rdR l 0) = (F, v)) :
    Calls Try.prog 17 #[.slice a n c] w fun x w' => ∃ ea en ec a' n' c', x = .returned (.tuple #[.agg (F.rc ea en ec a' n' c').cells.toArray, .int .i64 v]) ∧ Rd w' ea en ec F.dt ∧ Rd w' a' n' c' F.sn ∧ Below w.heap.size w w' := by
  obtain ⟨F0, lR, eR, hR⟩ : ∃ x y z, rdR l 0 = (x, y, z) := ⟨_, _, _, rfl⟩
  rw [hR] at hD
  have HL := Lib.hid h
  have HR := Lib.hid hR
  have RZ := Lib.hid rc_zero
  have RS := Lib.hid rc_size
  clear h hR
  obtain ⟨ck, hck⟩ : ∃ x, chkF F0 = x := ⟨_, rfl⟩
  have HCK := Lib.hid hck
  have h01 := chkF01 F0
  rw [hck] at h01
  unfold decV at hD
  dsimp only at hD
  rw [hck] at hD
  clear hck
  rcases h01 with rfl | rfl
  · by_cases hev : endV lR eR = 0
    · rw [if_pos rfl, if_pos hev] at hD
      obtain ⟨rfl, rfl⟩ := Prod.mk.inj hD
      have HEV := Lib.hid hev
      clear hev hD
      go_enter Try.func17, Try.ntmps17
      go_wp2_with (first
      | ((with_reducible refine alloc_row (o := ⟨some 2, _, _, _, _, _⟩) rfl _ rfl _ RZ.out ?_); intro w1 hr1 hb1 hz1; have Z1 := Lib.hid hr1; have B1 := Lib.hid hb1; clear hr1 hb1 hz1)
      | (go_at_call 19; refine (popen a n c l w1 (HL.out.mono B1.out) hm).mono ?_; rintro x w2 ⟨p, rfl, hp0, hp2, hb2⟩; have P2 := Lib.hid hp2; have PG := Lib.hid (show w.heap.size < p from Nat.lt_of_lt_of_le Z1.out.lt hp0); have Z2 := Lib.hid (Z1.out.below hb2 Z1.out.lt); have B2 := Lib.hid (B1.out.trans (hb2.mono B1.out.size)); clear hp0 hp2 hb2)
      | (go_at_call 51; refine (rread p l 0 w2 P2.out F0 lR eR HR.out).mono ?_; rintro x w3 ⟨ea, en, ec, a', n', c', rfl, hd3, hs3, hp3, hg3⟩; have D3 := Lib.hid hd3; have S3 := Lib.hid hs3; have P3 := Lib.hid hp3; have Z3 := Lib.hid (Z2.out.gw hg3 (by have := PG.out; omega)); have B3 := Lib.hid (B2.out.trans (hg3.below (Nat.le_of_lt PG.out) B2.out.size)); have PL := Lib.hid (show p < w3.heap.size from hp3.lt); clear hd3 hs3 hp3 hg3)
      | ((with_reducible refine alloc_row (o := ⟨some 5, _, _, _, _, _⟩) rfl _ rfl _ RZ.out ?_); intro w4 hr4 hb4 hz4; have E4 := Lib.hid hr4; have D4 := Lib.hid (D3.out.mono hb4); have S4 := Lib.hid (S3.out.mono hb4); have P4 := Lib.hid (P3.out.mono hb4); have GC := Lib.hid (show w.heap.size < w3.heap.size from Z3.out.lt); have Z4 := Lib.hid (Z3.out.below hb4 Z3.out.lt); have B4 := Lib.hid (B3.out.trans (hb4.mono B3.out.size)); clear hr4 hb4 hz4)
      | ((with_reducible refine store_row (o := ⟨none, _, _, _, _, _⟩) rfl _ (.tmp 5) _ rfl w3.heap.size (F0.rc ea en ec a' n' c').cells ?_ ?_ 26 _ E4.out ?_ ?_ ?_ ?_); (focus go_simp); (focus (first | (go_simp; done) | (go_simp; rfl))); (focus (exact RS.out)); (focus rfl); (focus (exact rc_one _)); intro w5 hr5 hu5; have E5 := Lib.hid hr5; have D5 := Lib.hid (D4.out.put E4.out (NB_rc _) hu5); have S5 := Lib.hid (S4.out.put E4.out (NB_rc _) hu5); have P5 := Lib.hid (P4.out.put (by have := PL.out; omega) E4.out (NB_rc _) hu5); have Z5 := Lib.hid (Z4.out.upd hu5 (by have := GC.out; omega)); have B5 := Lib.hid (B4.out.trans (hu5.below B3.out.size)); clear hr5 hu5)
      | ((with_reducible refine load_row (o := ⟨some 11, _, _, _, _, _⟩) rfl _ _ rfl w3.heap.size ?_ _ (F0.rc ea en ec a' n' c').cells _ E5.out Try.underlying26 rfl ?_ ?_); (focus go_simp); (focus (exact RS.out)))
      | (go_at_call 13; refine (rcheck (F0.rc ea en ec a' n' c') F0.dt F0.sn w5 D5.out S5.out).mono ?_; rw [chkF_of D5.out S5.out, HCK.out]; rintro x w6 ⟨rfl, hb6⟩; have E6 := Lib.hid (E5.out.below hb6 E5.out.lt); have D6 := Lib.hid (D5.out.mono hb6); have S6 := Lib.hid (S5.out.mono hb6); have P6 := Lib.hid (P5.out.mono hb6); have Z6 := Lib.hid (Z5.out.below hb6 Z5.out.lt); have B6 := Lib.hid (B5.out.trans (hb6.mono B5.out.size)); clear hb6)
      | (go_at_call 53; refine (pend p lR eR w6 P6.out).mono ?_; rw [HEV.out]; rintro x w' ⟨rfl, rfl⟩)
      | ((with_reducible refine load_row (o := ⟨some 22, _, _, _, _, _⟩) rfl _ _ rfl w3.heap.size ?_ _ (F0.rc ea en ec a' n' c').cells _ E6.out Try.underlying26 rfl ?_ ?_); (focus go_simp); (focus (exact RS.out)))
      | ((with_reducible refine store_row (o := ⟨none, _, _, _, _, _⟩) rfl _ (.tmp 2) _ rfl w.heap.size (F0.rc ea en ec a' n' c').cells ?_ ?_ 26 _ Z6.out ?_ ?_ ?_ ?_); (focus go_simp); (focus (first | (go_simp; done) | (go_simp; rfl))); (focus (exact RS.out)); (focus rfl); (focus (exact rc_one _)); intro w10 hr10 hu10; have E10 := Lib.hid hr10; have D10 := Lib.hid (D6.out.put Z6.out (NB_rc _) hu10); have S10 := Lib.hid (S6.out.put Z6.out (NB_rc _) hu10); have B10 := Lib.hid (B6.out.trans (hu10.below (Nat.le_refl _))); clear hr10 hu10))
      exact bodyPost_ret (results_row_tmp rfl _ _ w.heap.size 26 _ _ _ (by go_simp) E10.out Try.underlying26 rfl RS.out) rfl ⟨ea, en, ec, a', n', c', rfl, D10.out, S10.out, B10.out⟩
    · rw [if_pos rfl, if_neg hev] at hD
      obtain ⟨ev, hq⟩ : ∃ x, endV lR eR = x := ⟨_, rfl⟩
      rw [hq] at hD hev
      obtain ⟨rfl, rfl⟩ := Prod.mk.inj hD
      have HEV := Lib.hid hq
      have hne : (ev != 0) = true := by rw [bne_iff_ne]; exact hev
      clear hev hD hq
      go_enter Try.func17, Try.ntmps17
      go_wp2_with (first
      | ((with_reducible refine alloc_row (o := ⟨some 2, _, _, _, _, _⟩) rfl _ rfl _ RZ.out ?_); intro w1 hr1 hb1 hz1; have Z1 := Lib.hid hr1; have B1 := Lib.hid hb1; clear hr1 hb1 hz1)
      | (go_at_call 19; refine (popen a n c l w1 (HL.out.mono B1.out) hm).mono ?_; rintro x w2 ⟨p, rfl, hp0, hp2, hb2⟩; have P2 := Lib.hid hp2; have PG := Lib.hid (show w.heap.size < p from Nat.lt_of_lt_of_le Z1.out.lt hp0); have Z2 := Lib.hid (Z1.out.below hb2 Z1.out.lt); have B2 := Lib.hid (B1.out.trans (hb2.mono B1.out.size)); clear hp0 hp2 hb2)
      | (go_at_call 51; refine (rread p l 0 w2 P2.out F0 lR eR HR.out).mono ?_; rintro x w3 ⟨ea, en, ec, a', n', c', rfl, hd3, hs3, hp3, hg3⟩; have D3 := Lib.hid hd3; have S3 := Lib.hid hs3; have P3 := Lib.hid hp3; have Z3 := Lib.hid (Z2.out.gw hg3 (by have := PG.out; omega)); have B3 := Lib.hid (B2.out.trans (hg3.below (Nat.le_of_lt PG.out) B2.out.size)); have PL := Lib.hid (show p < w3.heap.size from hp3.lt); clear hd3 hs3 hp3 hg3)
      | ((with_reducible refine alloc_row (o := ⟨some 5, _, _, _, _, _⟩) rfl _ rfl _ RZ.out ?_); intro w4 hr4 hb4 hz4; have E4 := Lib.hid hr4; have D4 := Lib.hid (D3.out.mono hb4); have S4 := Lib.hid (S3.out.mono hb4); have P4 := Lib.hid (P3.out.mono hb4); have GC := Lib.hid (show w.heap.size < w3.heap.size from Z3.out.lt); have Z4 := Lib.hid (Z3.out.below hb4 Z3.out.lt); have B4 := Lib.hid (B3.out.trans (hb4.mono B3.out.size)); clear hr4 hb4 hz4)
      | ((with_reducible refine store_row (o := ⟨none, _, _, _, _, _⟩) rfl _ (.tmp 5) _ rfl w3.heap.size (F0.rc ea en ec a' n' c').cells ?_ ?_ 26 _ E4.out ?_ ?_ ?_ ?_); (focus go_simp); (focus (first | (go_simp; done) | (go_simp; rfl))); (focus (exact RS.out)); (focus rfl); (focus (exact rc_one _)); intro w5 hr5 hu5; have E5 := Lib.hid hr5; have D5 := Lib.hid (D4.out.put E4.out (NB_rc _) hu5); have S5 := Lib.hid (S4.out.put E4.out (NB_rc _) hu5); have P5 := Lib.hid (P4.out.put (by have := PL.out; omega) E4.out (NB_rc _) hu5); have Z5 := Lib.hid (Z4.out.upd hu5 (by have := GC.out; omega)); have B5 := Lib.hid (B4.out.trans (hu5.below B3.out.size)); clear hr5 hu5)
      | ((with_reducible refine load_row (o := ⟨some 11, _, _, _, _, _⟩) rfl _ _ rfl w3.heap.size ?_ _ (F0.rc ea en ec a' n' c').cells _ E5.out Try.underlying26 rfl ?_ ?_); (focus go_simp); (focus (exact RS.out)))
      | (go_at_call 13; refine (rcheck (F0.rc ea en ec a' n' c') F0.dt F0.sn w5 D5.out S5.out).mono ?_; rw [chkF_of D5.out S5.out, HCK.out]; rintro x w6 ⟨rfl, hb6⟩; have E6 := Lib.hid (E5.out.below hb6 E5.out.lt); have D6 := Lib.hid (D5.out.mono hb6); have S6 := Lib.hid (S5.out.mono hb6); have P6 := Lib.hid (P5.out.mono hb6); have Z6 := Lib.hid (Z5.out.below hb6 Z5.out.lt); have B6 := Lib.hid (B5.out.trans (hb6.mono B5.out.size)); clear hb6)
      | (go_at_call 53; refine (pend p lR eR w6 P6.out).mono ?_; rw [HEV.out]; rintro x w' ⟨rfl, rfl⟩)
      | ((with_reducible refine build_row (o := ⟨some 20, _, _, _, _, _⟩) rfl _ _ rfl (Rc.z 0).cells ?_ ?_); (focus (go_simp; exact built_r0)))
      | ((with_reducible refine store_row (o := ⟨none, _, _, _, _, _⟩) rfl _ (.tmp 2) _ rfl w.heap.size (Rc.z 0).cells ?_ ?_ 26 _ Z6.out ?_ ?_ ?_ ?_); (focus go_simp); (focus (first | (go_simp; done) | (go_simp; rfl))); (focus (exact RS.out)); (focus rfl); (focus (exact rc_one _)); intro w10 hr10 hu10; have E10 := Lib.hid hr10; have B10 := Lib.hid (B6.out.trans (hu10.below (Nat.le_refl _))); clear hr10 hu10))
      exact bodyPost_ret (results_row_tmp rfl _ _ w.heap.size 26 _ _ _ (by go_simp) E10.out Try.underlying26 rfl RS.out) rfl ⟨none, 0, 0, none, 0, 0, rfl, Rd_nil _, Rd_nil _, B10.out⟩
  · rw [if_neg (by decide)] at hD
    obtain ⟨ev, hq⟩ : ∃ x, failE eR 3 = x := ⟨_, rfl⟩
    have hne0 : ev ≠ 0 := by rw [← hq]; exact failE_ne eR
    rw [hq] at hD
    obtain ⟨rfl, rfl⟩ := Prod.mk.inj hD
    have HEV := Lib.hid hq
    have hne : (ev != 0) = true := by rw [bne_iff_ne]; exact hne0
    clear hD hq hne0
    go_enter Try.func17, Try.ntmps17
    go_wp2_with (first
      | ((with_reducible refine alloc_row (o := ⟨some 2, _, _, _, _, _⟩) rfl _ rfl _ RZ.out ?_); intro w1 hr1 hb1 hz1; have Z1 := Lib.hid hr1; have B1 := Lib.hid hb1; clear hr1 hb1 hz1)
      | (go_at_call 19; refine (popen a n c l w1 (HL.out.mono B1.out) hm).mono ?_; rintro x w2 ⟨p, rfl, hp0, hp2, hb2⟩; have P2 := Lib.hid hp2; have PG := Lib.hid (show w.heap.size < p from Nat.lt_of_lt_of_le Z1.out.lt hp0); have Z2 := Lib.hid (Z1.out.below hb2 Z1.out.lt); have B2 := Lib.hid (B1.out.trans (hb2.mono B1.out.size)); clear hp0 hp2 hb2)
      | (go_at_call 51; refine (rread p l 0 w2 P2.out F0 lR eR HR.out).mono ?_; rintro x w3 ⟨ea, en, ec, a', n', c', rfl, hd3, hs3, hp3, hg3⟩; have D3 := Lib.hid hd3; have S3 := Lib.hid hs3; have P3 := Lib.hid hp3; have Z3 := Lib.hid (Z2.out.gw hg3 (by have := PG.out; omega)); have B3 := Lib.hid (B2.out.trans (hg3.below (Nat.le_of_lt PG.out) B2.out.size)); have PL := Lib.hid (show p < w3.heap.size from hp3.lt); clear hd3 hs3 hp3 hg3)
      | ((with_reducible refine alloc_row (o := ⟨some 5, _, _, _, _, _⟩) rfl _ rfl _ RZ.out ?_); intro w4 hr4 hb4 hz4; have E4 := Lib.hid hr4; have D4 := Lib.hid (D3.out.mono hb4); have S4 := Lib.hid (S3.out.mono hb4); have P4 := Lib.hid (P3.out.mono hb4); have GC := Lib.hid (show w.heap.size < w3.heap.size from Z3.out.lt); have Z4 := Lib.hid (Z3.out.below hb4 Z3.out.lt); have B4 := Lib.hid (B3.out.trans (hb4.mono B3.out.size)); clear hr4 hb4 hz4)
      | ((with_reducible refine store_row (o := ⟨none, _, _, _, _, _⟩) rfl _ (.tmp 5) _ rfl w3.heap.size (F0.rc ea en ec a' n' c').cells ?_ ?_ 26 _ E4.out ?_ ?_ ?_ ?_); (focus go_simp); (focus (first | (go_simp; done) | (go_simp; rfl))); (focus (exact RS.out)); (focus rfl); (focus (exact rc_one _)); intro w5 hr5 hu5; have E5 := Lib.hid hr5; have D5 := Lib.hid (D4.out.put E4.out (NB_rc _) hu5); have S5 := Lib.hid (S4.out.put E4.out (NB_rc _) hu5); have P5 := Lib.hid (P4.out.put (by have := PL.out; omega) E4.out (NB_rc _) hu5); have Z5 := Lib.hid (Z4.out.upd hu5 (by have := GC.out; omega)); have B5 := Lib.hid (B4.out.trans (hu5.below B3.out.size)); clear hr5 hu5)
      | ((with_reducible refine load_row (o := ⟨some 11, _, _, _, _, _⟩) rfl _ _ rfl w3.heap.size ?_ _ (F0.rc ea en ec a' n' c').cells _ E5.out Try.underlying26 rfl ?_ ?_); (focus go_simp); (focus (exact RS.out)))
      | (go_at_call 13; refine (rcheck (F0.rc ea en ec a' n' c') F0.dt F0.sn w5 D5.out S5.out).mono ?_; rw [chkF_of D5.out S5.out, HCK.out]; rintro x w6 ⟨rfl, hb6⟩; have E6 := Lib.hid (E5.out.below hb6 E5.out.lt); have D6 := Lib.hid (D5.out.mono hb6); have S6 := Lib.hid (S5.out.mono hb6); have P6 := Lib.hid (P5.out.mono hb6); have Z6 := Lib.hid (Z5.out.below hb6 Z5.out.lt); have B6 := Lib.hid (B5.out.trans (hb6.mono B5.out.size)); clear hb6)
      | (go_at_call 52; refine (pfail p lR eR 3 w6 P6.out).mono ?_; rintro x w7 ⟨rfl, hp7, hu7⟩; have P7 := Lib.hid hp7; have Z7 := Lib.hid (Z6.out.upd hu7 (by have := PG.out; omega)); have B7 := Lib.hid (B6.out.trans (hu7.below (Nat.le_of_lt PG.out))); clear hp7 hu7)
      | (go_at_call 53; refine (pend p _ _ w7 P7.out).mono ?_; rw [endF, HEV.out]; rintro x w' ⟨rfl, rfl⟩)
      | ((with_reducible refine build_row (o := ⟨some 20, _, _, _, _, _⟩) rfl _ _ rfl (Rc.z 0).cells ?_ ?_); (focus (go_simp; exact built_r0)))
      | ((with_reducible refine store_row (o := ⟨none, _, _, _, _, _⟩) rfl _ (.tmp 2) _ rfl w.heap.size (Rc.z 0).cells ?_ ?_ 26 _ Z7.out ?_ ?_ ?_ ?_); (focus go_simp); (focus (first | (go_simp; done) | (go_simp; rfl))); (focus (exact RS.out)); (focus rfl); (focus (exact rc_one _)); intro w10 hr10 hu10; have E10 := Lib.hid hr10; have B10 := Lib.hid (B7.out.trans (hu10.below (Nat.le_refl _))); clear hr10 hu10))
    exact bodyPost_ret (results_row_tmp rfl _ _ w.heap.size 26 _ _ _ (by go_simp) E10.out Try.underlying26 rfl RS.out) rfl ⟨none, 0, 0, none, 0, 0, rfl, Rd_nil _, Rd_nil _, B10.out⟩
end Go.Proofs.Ytggmindkpfpmhaa.W
