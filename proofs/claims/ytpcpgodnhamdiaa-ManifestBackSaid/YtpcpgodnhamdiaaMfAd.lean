/- LAYER 20 (manifest): the law ManifestBack. -/
import Derived.Test.YtpcpgodnhamdiaaMfAa
import Derived.Test.YtpcpgodnhamdiaaMfK
import Derived.Test.YtpcpgodnhamdiaaMfW
import Derived.Test.YtpcpgodnhamdiaaMfX
set_option linter.unusedSimpArgs false
set_option linter.unusedVariables false
namespace Go.Proofs.Ytpcpgodnhamdiaa.W
open Go Go.ChangeShapes Go.WideShapes Go.ChangeAt Go.RowKit
open Go.Proofs.Ytpcpgodnhamdiaa.P (enc dec)
open Go.Proofs.Ytpcpgodnhamdiaa.S

theorem padd_s (y : SnX) (a : Option Addr) (n c : Nat) (L : List Sn) (w : World) (h : SnL w a n c L) (hf : FewP L) (hn : n ≤ 1000) (hy : y.fit w) (hyP : y.s.P.length ≤ 1000) (M : List Sn) (e : Int) (k : Nat) (hM : (addM L y.s).1 = M) (he : (addM L y.s).2 = e) (hk : M.length = k) :
    Calls Try.prog 9 #[.slice a n c, .agg y.cells.toArray] w fun x w' => ∃ a' c', x = .returned (.tuple #[.slice a' k c', .int .i64 e]) ∧ SnL w' a' k c' M ∧ Below w.heap.size w w' := by
  refine (pmadd y a n c L w h hf hn hy hyP).mono ?_
  rw [hM, he]
  rintro x w' ⟨v, rfl, hO, hb⟩
  obtain ⟨a', c', rfl, hs⟩ := hO.snl
  rw [hk] at hs ⊢
  exact ⟨a', c', rfl, hs, hb⟩
theorem premove_s (sp nm : ByteArray) (now : Int) (a : Option Addr) (n c : Nat) (L : List Sn) (w : World) (h : SnL w a n c L) (hf : FewP L) (hn : n ≤ 1000) (M : List Sn) (b e : Int) (k : Nat) (hM : removeM L sp nm now = (M, b, e)) (hk : M.length = k) :
    Calls Try.prog 11 #[.slice a n c, .string sp, .string nm, .int .i64 now] w fun x w' => ∃ a' c', x = .returned (.tuple #[.slice a' k c', .int .i64 b, .int .i64 e]) ∧ SnL w' a' k c' M ∧ Below w.heap.size w w' := by
  refine (pmremove sp nm now a n c L w h hf hn).mono ?_
  rw [hM]
  rintro x w' ⟨v, rfl, hO, hb⟩
  obtain ⟨a', c', rfl, hs⟩ := hO.snl
  dsimp only at hs ⊢
  rw [hk] at hs ⊢
  exact ⟨a', c', rfl, hs, hb⟩
set_option maxRecDepth 100000 in
set_option maxHeartbeats 32000000 in
theorem law_ManifestBack (a : Option Addr) (n c : Nat) (X : List SnX) (y : SnX) (now : Int) (w : World) (h : Ls snE w a n c X) (hy : y.fit w) (_ : (Lit.int .i64 now).wf = true) :
    Calls Try.prog 5 #[.slice a n c, .agg y.cells.toArray, .int .i64 now] w fun x w' => x = .returned (.bool true) ∧ Below w.heap.size w w' := by
  obtain ⟨L, hL⟩ : ∃ L, X.map (·.s) = L := ⟨_, rfl⟩
  have HS0 := Lib.hid (show SnL w a n c L from ⟨X, h, hL⟩)
  have hln : L.length = n := by rw [← hL, List.length_map, h.hlen]
  have HY := Lib.hid (fun w' (hb : Below w.heap.size w w') => snOk.mono y _ _ hy hb)
  have hyl := hy.P.hlen
  have hym := hy.P.hmax
  have hyc := hy.P.hle
  obtain ⟨bf, hbf⟩ : ∃ b, fewM L = b := ⟨_, rfl⟩
  obtain ⟨ck, hck⟩ : ∃ b, checkM L = b := ⟨_, rfl⟩
  have HFEW := Lib.hid (fun w' (hb : Below w.heap.size w w') => few20 a n c L w' (HS0.out.mono hb))
  have HCK := Lib.hid (fun w' (hb : Below w.heap.size w w') => mcheck a n c L w' (HS0.out.mono hb))
  rw [hbf] at HFEW
  rw [hck] at HCK
  have SZ := Lib.hid sn_size
  obtain ⟨⟨sp, nm, by1, ti, ke, PL⟩, pa, pm, pc⟩ := y
  dsimp only at hyl hym hyc
  cases bf
  case false =>
    clear h hy hL hln hbf hck
    go_enter Try.func5, Try.ntmps5
    go_wp2_with (first
      | ((with_reducible refine box_row (o := ⟨some 4, _, _, _, _, _⟩) rfl _ _ rfl (snC sp nm by1 ti ke pa pm pc) rfl ?_); intro w1 hr hb hz; have R1 := Lib.hid hr; have B1 := Lib.hid hb; clear hr hb hz)
      | (go_at_call 6; (with_reducible refine (HFEW.out w1 B1.out).mono ?_); rintro x w2 ⟨rfl, hb⟩; have R2 := Lib.hid (R1.out.below hb R1.out.lt); have B2 := Lib.hid (B1.out.trans (hb.mono B1.out.size)); obtain ⟨c0, c1, c2, c3, c4, c5⟩ := R2.out.h6s; clear hb)
      | (go_at_call 7; (with_reducible refine (awake20 _).mono ?_); rintro x wz ⟨rfl, hb⟩; have BZ := Lib.hid (B2.out.trans (hb.mono B2.out.size)); clear hb))
    go_ret
    exact ⟨by first | rfl | exact one (vbool (by simp)), BZ.out⟩
  by_cases hp20 : pm ≤ 20
  rotate_left
  · have g20 : (20 : Int) < (pm : Int) := by omega
    clear h hy hL hln hbf hck
    go_enter Try.func5, Try.ntmps5
    go_wp2_with (first
      | ((with_reducible refine box_row (o := ⟨some 4, _, _, _, _, _⟩) rfl _ _ rfl (snC sp nm by1 ti ke pa pm pc) rfl ?_); intro w1 hr hb hz; have R1 := Lib.hid hr; have B1 := Lib.hid hb; clear hr hb hz)
      | (go_at_call 6; (with_reducible refine (HFEW.out w1 B1.out).mono ?_); rintro x w2 ⟨rfl, hb⟩; have R2 := Lib.hid (R1.out.below hb R1.out.lt); have B2 := Lib.hid (B1.out.trans (hb.mono B1.out.size)); obtain ⟨c0, c1, c2, c3, c4, c5⟩ := R2.out.h6s; clear hb)
      | (go_at_call 7; (with_reducible refine (awake20 _).mono ?_); rintro x wz ⟨rfl, hb⟩; have BZ := Lib.hid (B2.out.trans (hb.mono B2.out.size)); clear hb))
    go_ret
    exact ⟨by first | rfl | exact one (vbool (by simp)), BZ.out⟩
  have g20 : ¬ (20 : Int) < (pm : Int) := by omega
  cases ck
  case false =>
    clear h hy hL hln hbf hck
    go_enter Try.func5, Try.ntmps5
    go_wp2_with (first
      | ((with_reducible refine box_row (o := ⟨some 4, _, _, _, _, _⟩) rfl _ _ rfl (snC sp nm by1 ti ke pa pm pc) rfl ?_); intro w1 hr hb hz; have R1 := Lib.hid hr; have B1 := Lib.hid hb; clear hr hb hz)
      | (go_at_call 6; (with_reducible refine (HFEW.out w1 B1.out).mono ?_); rintro x w2 ⟨rfl, hb⟩; have R2 := Lib.hid (R1.out.below hb R1.out.lt); have B2 := Lib.hid (B1.out.trans (hb.mono B1.out.size)); obtain ⟨c0, c1, c2, c3, c4, c5⟩ := R2.out.h6s; clear hb)
      | (go_at_call 14; (with_reducible refine (HCK.out w2 B2.out).mono ?_); rintro x w3 ⟨rfl, hb⟩; have R3 := Lib.hid (R2.out.below hb R2.out.lt); have B3 := Lib.hid (B2.out.trans (hb.mono B2.out.size)); clear hb)
      | (go_at_call 7; (with_reducible refine (awake20 _).mono ?_); rintro x wz ⟨rfl, hb⟩; have BZ := Lib.hid (B3.out.trans (hb.mono B3.out.size)); clear hb))
    go_ret
    exact ⟨by first | rfl | exact one (vbool (by simp)), BZ.out⟩
  obtain ⟨hn30, hfp⟩ := fewM_few hbf
  have hP20 : PL.length ≤ 1000 := by omega
  obtain ⟨s, hs⟩ : ∃ s : Sn, (⟨sp, nm, by1, ti, ke, PL⟩ : Sn) = s := ⟨_, rfl⟩
  obtain ⟨M, hM⟩ : ∃ M, (addM L s).1 = M := ⟨_, rfl⟩
  obtain ⟨e, he⟩ : ∃ e, (addM L s).2 = e := ⟨_, rfl⟩
  obtain ⟨k, hk⟩ : ∃ k, M.length = k := ⟨_, rfl⟩
  have hMc : checkM M = true := by rw [← hM]; exact addM_check s hck
  have hk12 : k ≤ 12 := by rw [← hk]; exact (checkM_ok hMc).1
  have hMf : FewP M := by rw [← hM]; exact addM_few hfp (by rw [← hs]; exact hP20)
  have HAD := Lib.hid (fun w' (hb : Below w.heap.size w w') => padd_s ⟨⟨sp, nm, by1, ti, ke, PL⟩, pa, pm, pc⟩ a n c L w' (HS0.out.mono hb) hfp (by omega) (HY.out w' hb) hP20 M e k (by dsimp only; rw [hs]; exact hM) (by dsimp only; rw [hs]; exact he) hk)
  have HCM := Lib.hid (fun a' c' w' (hl : SnL w' a' k c' M) => mcheck a' k c' M w' hl)
  rw [hMc] at HCM
  have HPM := Lib.hid (fun a' c' w' (hl : SnL w' a' k c' M) => pputM a' k c' M w' hl hMc)
  obtain ⟨T, hT⟩ : ∃ T, enc k ++ M.flatMap codeS = T := ⟨_, rfl⟩
  rw [hT] at HPM
  have hrd := readM_put M hMc []
  rw [List.append_nil, hk, hT] at hrd
  have HRD := Lib.hid (fun p w' (hp : RP w' p T 0) => pmread p T 0 w' hp)
  simp only [hrd] at HRD
  have HSM := Lib.hid (fun a1 n1 c1 a2 n2 c2 w' (h1 : SnL w' a1 n1 c1 M) (h2 : SnL w' a2 n2 c2 M) => psames a1 a2 n1 c1 n2 c2 M w' h1 h2)
  have HSL := Lib.hid (fun a1 n1 c1 a2 n2 c2 w' (h1 : SnL w' a1 n1 c1 L) (h2 : SnL w' a2 n2 c2 L) => psames a1 a2 n1 c1 n2 c2 L w' h1 h2)
  by_cases he0 : e = 0
  rotate_left
  · have hq : (e == 0) = false := by simpa using he0
    have hq2 : (e != 0) = true := by simpa using he0
    obtain rfl : L = M := by rw [← hM]; exact (addM_err (by rw [he]; exact he0)).symm
    clear h hy hL hln hbf hck hM he hk hMc hMf hs hT hrd hfp
    go_enter Try.func5, Try.ntmps5
    go_wp2_with (first
      | ((with_reducible refine box_row (o := ⟨some 4, _, _, _, _, _⟩) rfl _ _ rfl (snC sp nm by1 ti ke pa pm pc) rfl ?_); intro w1 hr hb hz; have R1 := Lib.hid hr; have B1 := Lib.hid hb; clear hr hb hz)
      | (go_at_call 6; (with_reducible refine (HFEW.out w1 B1.out).mono ?_); rintro x w2 ⟨rfl, hb⟩; have R2 := Lib.hid (R1.out.below hb R1.out.lt); have B2 := Lib.hid (B1.out.trans (hb.mono B1.out.size)); obtain ⟨c0, c1, c2, c3, c4, c5⟩ := R2.out.h6s; clear hb)
      | (go_at_call 14; (with_reducible refine (HCK.out w2 B2.out).mono ?_); rintro x w3 ⟨rfl, hb⟩; have R3 := Lib.hid (R2.out.below hb R2.out.lt); have B3 := Lib.hid (B2.out.trans (hb.mono B2.out.size)); clear hb)
      | ((with_reducible refine load_row (o := ⟨some 30, _, _, _, _, _⟩) rfl _ _ rfl w.heap.size ?_ _ (snC sp nm by1 ti ke pa pm pc) _ R3.out Try.underlying25 rfl ?_ ?_); (focus go_simp); (focus (exact SZ.out)))
      | (go_at_call 9; (with_reducible refine (HAD.out w3 B3.out).mono ?_); rintro x w4 ⟨a2, c2', rfl, hs, hb⟩; have M4 := Lib.hid hs; have R4 := Lib.hid (R3.out.below hb R3.out.lt); have B4 := Lib.hid (B3.out.trans (hb.mono B3.out.size)); have D4 := Lib.hid (Below.refl w4.heap.size w4); clear hs hb c0 c1 c2 c3 c4 c5)
      | (go_at_call 14; (with_reducible refine (HCM.out _ _ w4 M4.out).mono ?_); rintro x w5 ⟨rfl, hb⟩; have D5 := Lib.hid (D4.out.trans (hb.mono D4.out.size)); clear hb)
      | (go_at_call 29; (with_reducible refine (HPM.out _ _ w5 (M4.out.mono D5.out)).mono ?_); rintro x w6 ⟨y6, m6, d6, rfl, hrd, hm6, hb⟩; have K6 := Lib.hid hrd; have E6 := Lib.hid hm6; have D6 := Lib.hid (D5.out.trans (hb.mono D5.out.size)); clear hrd hm6 hb)
      | (go_at_call 28; (with_reducible refine (popen y6 m6 d6 T w6 K6.out (by have := E6.out; omega)).mono ?_); rintro x w7 ⟨p, rfl, hp1, hp2, hb⟩; have P7 := Lib.hid hp2; have PG := Lib.hid (Nat.le_trans D6.out.size hp1); have D7 := Lib.hid (D6.out.trans (hb.mono D6.out.size)); clear hp1 hp2 hb)
      | (go_at_call 31; (with_reducible refine (HRD.out p w7 P7.out).mono ?_); rintro x w8 ⟨a8, m8, c8, rfl, hlm, hN, hP, hg⟩; have S8 := Lib.hid (hN.snl' hlm); have P8 := Lib.hid hP; have D8 := Lib.hid (D7.out.trans (hg.below PG.out D7.out.size)); clear hlm hN hP hg)
      | (go_at_call 30; (with_reducible refine (HSM.out _ _ _ _ _ _ w8 S8.out (M4.out.mono D8.out)).mono ?_); rintro x w9 ⟨rfl, hb⟩; have P9 := Lib.hid (P8.out.mono hb); have D9 := Lib.hid (D8.out.trans (hb.mono D8.out.size)); have R9 := Lib.hid (R4.out.below D9.out R4.out.lt); have B9 := Lib.hid (B4.out.trans (D9.out.mono B4.out.size)); obtain ⟨c0, c1, c2, c3, c4, c5⟩ := R9.out.h6s; clear hb)
      | (go_at_call 32; (with_reducible refine (pend p [] 0 w9 P9.out).mono ?_); rw [show endV [] 0 = 0 from rfl]; rintro x wz ⟨rfl, rfl⟩)
      | (go_at_call 30; (with_reducible refine (HSL.out _ _ _ _ _ _ w9 (M4.out.mono D9.out) (HS0.out.mono B9.out)).mono ?_); rintro x w12 ⟨rfl, hb⟩; have B12 := Lib.hid (B9.out.trans (hb.mono B9.out.size)); clear hb)
      | (go_at_call 7; (with_reducible refine (awake20 _).mono ?_); rintro x wz ⟨rfl, hb⟩; have BZ := Lib.hid (B12.out.trans (hb.mono B12.out.size)); clear hb))
    go_ret
    exact ⟨by first | rfl | exact one (vbool (by simp)), BZ.out⟩
  · subst he0
    have hrm : removeM M sp nm now = if now < ke then (M, 0, 22) else (L, by1, 0) := by
      have := addM_back he now
      rw [hM] at this
      rw [← hs] at this
      exact this
    by_cases hnk : now < ke
    · rw [if_pos hnk] at hrm
      have HRM := Lib.hid (fun a' c' w' (hl : SnL w' a' k c' M) => premove_s sp nm now a' k c' M w' hl hMf (by omega) M 0 22 k hrm hk)
      clear h hy hL hln hbf hck hM he hk hMc hMf hs hT hrd hfp hrm
      go_enter Try.func5, Try.ntmps5
      go_wp2_with (first
        | ((with_reducible refine box_row (o := ⟨some 4, _, _, _, _, _⟩) rfl _ _ rfl (snC sp nm by1 ti ke pa pm pc) rfl ?_); intro w1 hr hb hz; have R1 := Lib.hid hr; have B1 := Lib.hid hb; clear hr hb hz)
        | (go_at_call 6; (with_reducible refine (HFEW.out w1 B1.out).mono ?_); rintro x w2 ⟨rfl, hb⟩; have R2 := Lib.hid (R1.out.below hb R1.out.lt); have B2 := Lib.hid (B1.out.trans (hb.mono B1.out.size)); obtain ⟨c0, c1, c2, c3, c4, c5⟩ := R2.out.h6s; clear hb)
        | (go_at_call 14; (with_reducible refine (HCK.out w2 B2.out).mono ?_); rintro x w3 ⟨rfl, hb⟩; have R3 := Lib.hid (R2.out.below hb R2.out.lt); have B3 := Lib.hid (B2.out.trans (hb.mono B2.out.size)); clear hb)
        | ((with_reducible refine load_row (o := ⟨some 30, _, _, _, _, _⟩) rfl _ _ rfl w.heap.size ?_ _ (snC sp nm by1 ti ke pa pm pc) _ R3.out Try.underlying25 rfl ?_ ?_); (focus go_simp); (focus (exact SZ.out)))
        | (go_at_call 9; (with_reducible refine (HAD.out w3 B3.out).mono ?_); rintro x w4 ⟨a2, c2', rfl, hs, hb⟩; have M4 := Lib.hid hs; have R4 := Lib.hid (R3.out.below hb R3.out.lt); have B4 := Lib.hid (B3.out.trans (hb.mono B3.out.size)); have D4 := Lib.hid (Below.refl w4.heap.size w4); clear hs hb c0 c1 c2 c3 c4 c5)
        | (go_at_call 14; (with_reducible refine (HCM.out _ _ w4 M4.out).mono ?_); rintro x w5 ⟨rfl, hb⟩; have D5 := Lib.hid (D4.out.trans (hb.mono D4.out.size)); clear hb)
        | (go_at_call 29; (with_reducible refine (HPM.out _ _ w5 (M4.out.mono D5.out)).mono ?_); rintro x w6 ⟨y6, m6, d6, rfl, hrd, hm6, hb⟩; have K6 := Lib.hid hrd; have E6 := Lib.hid hm6; have D6 := Lib.hid (D5.out.trans (hb.mono D5.out.size)); clear hrd hm6 hb)
        | (go_at_call 28; (with_reducible refine (popen y6 m6 d6 T w6 K6.out (by have := E6.out; omega)).mono ?_); rintro x w7 ⟨p, rfl, hp1, hp2, hb⟩; have P7 := Lib.hid hp2; have PG := Lib.hid (Nat.le_trans D6.out.size hp1); have D7 := Lib.hid (D6.out.trans (hb.mono D6.out.size)); clear hp1 hp2 hb)
        | (go_at_call 31; (with_reducible refine (HRD.out p w7 P7.out).mono ?_); rintro x w8 ⟨a8, m8, c8, rfl, hlm, hN, hP, hg⟩; have S8 := Lib.hid (hN.snl' hlm); have P8 := Lib.hid hP; have D8 := Lib.hid (D7.out.trans (hg.below PG.out D7.out.size)); clear hlm hN hP hg)
        | (go_at_call 30; (with_reducible refine (HSM.out _ _ _ _ _ _ w8 S8.out (M4.out.mono D8.out)).mono ?_); rintro x w9 ⟨rfl, hb⟩; have P9 := Lib.hid (P8.out.mono hb); have D9 := Lib.hid (D8.out.trans (hb.mono D8.out.size)); have R9 := Lib.hid (R4.out.below D9.out R4.out.lt); have B9 := Lib.hid (B4.out.trans (D9.out.mono B4.out.size)); obtain ⟨c0, c1, c2, c3, c4, c5⟩ := R9.out.h6s; clear hb)
        | (go_at_call 32; (with_reducible refine (pend p [] 0 w9 P9.out).mono ?_); rw [show endV [] 0 = 0 from rfl]; rintro x wz ⟨rfl, rfl⟩)
        | (go_at_call 11; (with_reducible refine (HRM.out _ _ w9 (M4.out.mono D9.out)).mono ?_); rintro x w10 ⟨a10, c10, rfl, hs, hb⟩; have S10 := Lib.hid hs; have D10 := Lib.hid (D9.out.trans (hb.mono D9.out.size)); have R10 := Lib.hid (R9.out.below hb R9.out.lt); have B10 := Lib.hid (B9.out.trans (hb.mono B9.out.size)); clear c0 c1 c2 c3 c4 c5; obtain ⟨c0, c1, c2, c3, c4, c5⟩ := R10.out.h6s; clear hs hb)
        | (go_at_call 30; (with_reducible refine (HSM.out _ _ _ _ _ _ w10 (M4.out.mono D10.out) S10.out).mono ?_); rintro x w12 ⟨rfl, hb⟩; have B12 := Lib.hid (B10.out.trans (hb.mono B10.out.size)); clear hb)
        | (go_at_call 7; (with_reducible refine (awake20 _).mono ?_); rintro x wz ⟨rfl, hb⟩; have BZ := Lib.hid (B12.out.trans (hb.mono B12.out.size)); clear hb))
      go_ret
      exact ⟨by first | rfl | exact one (vbool (by simp)), BZ.out⟩
    · rw [if_neg hnk] at hrm
      have HRM := Lib.hid (fun a' c' w' (hl : SnL w' a' k c' M) => premove_s sp nm now a' k c' M w' hl hMf (by omega) L by1 0 n hrm hln)
      clear h hy hL hln hbf hck hM he hk hMc hMf hs hT hrd hfp hrm
      go_enter Try.func5, Try.ntmps5
      go_wp2_with (first
        | ((with_reducible refine box_row (o := ⟨some 4, _, _, _, _, _⟩) rfl _ _ rfl (snC sp nm by1 ti ke pa pm pc) rfl ?_); intro w1 hr hb hz; have R1 := Lib.hid hr; have B1 := Lib.hid hb; clear hr hb hz)
        | (go_at_call 6; (with_reducible refine (HFEW.out w1 B1.out).mono ?_); rintro x w2 ⟨rfl, hb⟩; have R2 := Lib.hid (R1.out.below hb R1.out.lt); have B2 := Lib.hid (B1.out.trans (hb.mono B1.out.size)); obtain ⟨c0, c1, c2, c3, c4, c5⟩ := R2.out.h6s; clear hb)
        | (go_at_call 14; (with_reducible refine (HCK.out w2 B2.out).mono ?_); rintro x w3 ⟨rfl, hb⟩; have R3 := Lib.hid (R2.out.below hb R2.out.lt); have B3 := Lib.hid (B2.out.trans (hb.mono B2.out.size)); clear hb)
        | ((with_reducible refine load_row (o := ⟨some 30, _, _, _, _, _⟩) rfl _ _ rfl w.heap.size ?_ _ (snC sp nm by1 ti ke pa pm pc) _ R3.out Try.underlying25 rfl ?_ ?_); (focus go_simp); (focus (exact SZ.out)))
        | (go_at_call 9; (with_reducible refine (HAD.out w3 B3.out).mono ?_); rintro x w4 ⟨a2, c2', rfl, hs, hb⟩; have M4 := Lib.hid hs; have R4 := Lib.hid (R3.out.below hb R3.out.lt); have B4 := Lib.hid (B3.out.trans (hb.mono B3.out.size)); have D4 := Lib.hid (Below.refl w4.heap.size w4); clear hs hb c0 c1 c2 c3 c4 c5)
        | (go_at_call 14; (with_reducible refine (HCM.out _ _ w4 M4.out).mono ?_); rintro x w5 ⟨rfl, hb⟩; have D5 := Lib.hid (D4.out.trans (hb.mono D4.out.size)); clear hb)
        | (go_at_call 29; (with_reducible refine (HPM.out _ _ w5 (M4.out.mono D5.out)).mono ?_); rintro x w6 ⟨y6, m6, d6, rfl, hrd, hm6, hb⟩; have K6 := Lib.hid hrd; have E6 := Lib.hid hm6; have D6 := Lib.hid (D5.out.trans (hb.mono D5.out.size)); clear hrd hm6 hb)
        | (go_at_call 28; (with_reducible refine (popen y6 m6 d6 T w6 K6.out (by have := E6.out; omega)).mono ?_); rintro x w7 ⟨p, rfl, hp1, hp2, hb⟩; have P7 := Lib.hid hp2; have PG := Lib.hid (Nat.le_trans D6.out.size hp1); have D7 := Lib.hid (D6.out.trans (hb.mono D6.out.size)); clear hp1 hp2 hb)
        | (go_at_call 31; (with_reducible refine (HRD.out p w7 P7.out).mono ?_); rintro x w8 ⟨a8, m8, c8, rfl, hlm, hN, hP, hg⟩; have S8 := Lib.hid (hN.snl' hlm); have P8 := Lib.hid hP; have D8 := Lib.hid (D7.out.trans (hg.below PG.out D7.out.size)); clear hlm hN hP hg)
        | (go_at_call 30; (with_reducible refine (HSM.out _ _ _ _ _ _ w8 S8.out (M4.out.mono D8.out)).mono ?_); rintro x w9 ⟨rfl, hb⟩; have P9 := Lib.hid (P8.out.mono hb); have D9 := Lib.hid (D8.out.trans (hb.mono D8.out.size)); have R9 := Lib.hid (R4.out.below D9.out R4.out.lt); have B9 := Lib.hid (B4.out.trans (D9.out.mono B4.out.size)); obtain ⟨c0, c1, c2, c3, c4, c5⟩ := R9.out.h6s; clear hb)
        | (go_at_call 32; (with_reducible refine (pend p [] 0 w9 P9.out).mono ?_); rw [show endV [] 0 = 0 from rfl]; rintro x wz ⟨rfl, rfl⟩)
        | (go_at_call 11; (with_reducible refine (HRM.out _ _ w9 (M4.out.mono D9.out)).mono ?_); rintro x w10 ⟨a10, c10, rfl, hs, hb⟩; have S10 := Lib.hid hs; have D10 := Lib.hid (D9.out.trans (hb.mono D9.out.size)); have R10 := Lib.hid (R9.out.below hb R9.out.lt); have B10 := Lib.hid (B9.out.trans (hb.mono B9.out.size)); clear c0 c1 c2 c3 c4 c5; obtain ⟨c0, c1, c2, c3, c4, c5⟩ := R10.out.h6s; clear hs hb)
        | (go_at_call 30; (with_reducible refine (HSL.out _ _ _ _ _ _ w10 S10.out (HS0.out.mono B10.out)).mono ?_); rintro x w12 ⟨rfl, hb⟩; have B12 := Lib.hid (B10.out.trans (hb.mono B10.out.size)); clear hb)
        | (go_at_call 7; (with_reducible refine (awake20 _).mono ?_); rintro x wz ⟨rfl, hb⟩; have BZ := Lib.hid (B12.out.trans (hb.mono B12.out.size)); clear hb))
      go_ret
      exact ⟨by first | rfl | exact one (vbool (by simp)), BZ.out⟩
end Go.Proofs.Ytpcpgodnhamdiaa.W
