/- CONTRACTS of layer 8 (token): Put of both. -/
import Derived.Test.YtlclkikbocbenaaDoorTokH
import Derived.Test.YtlclkikbocbenaaDoorPackW
set_option linter.unusedSimpArgs false
set_option linter.unusedVariables false
namespace Go.Proofs.YtlclkikbocbenaaDoor.W
open Go Go.ChangeShapes Go.WideShapes Go.ChangeAt Go.RowKit
open Go.Proofs.YtlclkikbocbenaaDoor.P (enc)

/-- a token's bytes behind bytes -/
def putT (S : List UInt8) (lane id epoch : Int) (L : List Cv) (tag : ByteArray) : List UInt8 :=
  if tokOk lane id epoch L tag then ((S ++ [lane, id, epoch].flatMap encZ) ++ codeL L) ++ (enc tag.size ++ tag.data.toList) else S
theorem codeL_len (L : List Cv) (h : L.length ≤ 8) : (codeL L).length ≤ 329 := by
  unfold codeL
  have h1 := P.enc_len L.length (by omega)
  have h2 := flat_len L
  rw [List.length_append]; omega

set_option maxRecDepth 100000 in
set_option maxHeartbeats 4000000 in
theorem tkput_any (a0 : Option Addr) (m0 c0 : Nat) (S : List UInt8) (lane id epoch : Int) (a : Option Addr) (len cap : Nat) (L : List Cv) (tag : ByteArray) (w : World) (hr : Rd w a0 m0 c0 S) (hm0 : m0 ≤ 3000) (h : Cvs w a len cap L) :
    Calls Tryd.prog 25 #[.slice a0 m0 c0, .agg #[.int .i64 lane, .int .i64 id, .int .i64 epoch, .slice a len cap, .string tag]] w fun e w' => ∃ v, e = .returned v ∧ Fr w' w.heap.size v (putT S lane id epoch L tag) ∧ Below w.heap.size w w' := by
  have H := Lib.hid h
  have HR := Lib.hid hr
  have HSL := Lib.hid hr.hlen
  have hlen := h.hlen
  obtain ⟨R, hR⟩ : ∃ R, putT S lane id epoch L tag = R := ⟨_, rfl⟩
  rw [hR]
  unfold putT at hR
  clear h hr
  rcases hok : tokOk lane id epoch L tag with _ | _
  · rw [hok, if_neg (by decide)] at hR
    subst hR
    have HE := Lib.hid (tokErr_no hok)
    clear hok hlen
    go_enter Tryd.func25, Tryd.ntmps25
    go_wp2_with (first
      | ((with_reducible refine box_row (o := ⟨some 3, _, _, _, _, _⟩) rfl _ _ rfl [.int .i64 lane, .int .i64 id, .int .i64 epoch, .slice a len cap, .string tag] rfl ?_); intro w1 hr1 hb1 hz1; have T1 := Lib.hid hr1; have B1 := Lib.hid hb1; clear hr1 hb1 hz1; obtain ⟨g0, g1, g2, g3, g4⟩ := T1.out.t5)
      | (go_at_call 35; refine (tkcheck_any lane id epoch a len cap L tag w1 (H.out.mono B1.out)).mono ?_; rw [HE.out]; rintro e w2 ⟨rfl, hb2⟩; have B2 := Lib.hid (B1.out.trans (hb2.mono B1.out.size)); have T2 := Lib.hid (T1.out.below hb2 T1.out.lt); clear hb2 g0 g1 g2 g3 g4; obtain ⟨g0, g1, g2, g3, g4⟩ := T2.out.t5)
      | (go_at_call 55; refine (bclone a0 m0 c0 S w2 (HR.out.mono B2.out) (by omega)).mono ?_; rintro e w3 ⟨v3, rfl, hf3, hb3⟩; have F3 := Lib.hid (hf3.base B2.out.size); have B3 := Lib.hid (B2.out.trans (hb3.mono B2.out.size)); clear hf3 hb3))
    go_ret
    exact ⟨_, rfl, F3.out, B3.out⟩
  · obtain ⟨hf, hsz, hl8⟩ := tokOk_facts hok
    rw [hok, if_pos rfl] at hR
    have HF := Lib.hid hf
    have HSZ := Lib.hid hsz
    have HL8 := Lib.hid (show len ≤ 8 by rw [← hlen]; exact hl8)
    have HE := Lib.hid (tokErr_ok hok)
    have hel : ([lane, id, epoch].flatMap encZ).length ≤ 27 := encz_len [lane, id, epoch] hf
    have hcl := codeL_len L hl8
    obtain ⟨E1, hE1⟩ : ∃ E1, S ++ [lane, id, epoch].flatMap encZ = E1 := ⟨_, rfl⟩
    obtain ⟨CL, hCL⟩ : ∃ CL, codeL L = CL := ⟨_, rfl⟩
    obtain ⟨E2, hE2⟩ : ∃ E2, E1 ++ CL = E2 := ⟨_, rfl⟩
    rw [hE1, hCL, hE2] at hR
    have h1 : E1.length ≤ 3027 := by rw [← hE1, List.length_append, HSL.out]; omega
    rw [hCL] at hcl
    have h2 : E2.length ≤ 3400 := by rw [← hE2, List.length_append]; omega
    have HE1 := Lib.hid hE1
    have HCL := Lib.hid hCL
    have HE2 := Lib.hid hE2
    have HRR := Lib.hid hR
    have N1 := Lib.hid h1
    have NC := Lib.hid hcl
    have N2 := Lib.hid h2
    have hRl : (enc tag.size).length + tag.size = (enc tag.size ++ tag.data.toList).length := by simp
    have HRL := Lib.hid (show R.length = E2.length + ((enc tag.size).length + tag.size) by rw [← hR, List.length_append, hRl])
    have HRN := Lib.hid (show R.length ≤ 4000 by have e9 := P.enc_len tag.size (by omega); rw [← hR, List.length_append, ← hRl]; omega)
    clear hR hok hlen hf hsz hl8 hel hcl hE1 hCL hE2 h1 h2 hRl
    go_enter Tryd.func25, Tryd.ntmps25
    go_wp2_with (first
      | ((with_reducible refine box_row (o := ⟨some 3, _, _, _, _, _⟩) rfl _ _ rfl [.int .i64 lane, .int .i64 id, .int .i64 epoch, .slice a len cap, .string tag] rfl ?_); intro w1 hr1 hb1 hz1; have T1 := Lib.hid hr1; have B1 := Lib.hid hb1; clear hr1 hb1 hz1; obtain ⟨g0, g1, g2, g3, g4⟩ := T1.out.t5)
      | (go_at_call 35; refine (tkcheck_any lane id epoch a len cap L tag w1 (H.out.mono B1.out)).mono ?_; rw [HE.out]; rintro e w2 ⟨rfl, hb2⟩; have B2 := Lib.hid (B1.out.trans (hb2.mono B1.out.size)); have T2 := Lib.hid (T1.out.below hb2 T1.out.lt); clear hb2 g0 g1 g2 g3 g4; obtain ⟨g0, g1, g2, g3, g4⟩ := T2.out.t5))
    have key := numbers_any a0 m0 c0 S w2.heap.size [lane, id, epoch] 3 (w2.alloc (.cells ([lane, id, epoch].map (Value.int .i64)).toArray 3)) ((HR.out.mono B2.out).mono ((Below.refl _ _).alloc (Nat.le_refl _) _)) hm0 rfl (by decide) (by decide) HF.out (by simp) (fun i hi => ints_in w2 [lane, id, epoch] 3 rfl i hi)
    rw [HE1.out] at key
    have BA := Lib.hid (B2.out.alloc B2.out.size (.cells ([lane, id, epoch].map (Value.int .i64)).toArray 3))
    have TA := Lib.hid (T2.out.alloc (.cells ([lane, id, epoch].map (Value.int .i64)).toArray 3))
    have KEY := Lib.hid key
    clear key g0 g1 g2 g3 g4
    refine KEY.out.mono ?_
    rintro e w3 ⟨v3, rfl, hf3, hb3⟩
    have F3 := Lib.hid (hf3.base (show w.heap.size + 1 ≤ _ from Nat.succ_le_of_lt TA.out.lt))
    have B3 := Lib.hid (BA.out.trans (hb3.mono BA.out.size))
    have T3 := Lib.hid (TA.out.below hb3 TA.out.lt)
    clear KEY hf3 hb3
    obtain ⟨g0, g1, g2, g3, g4⟩ := T3.out.t5
    go_wp2_with (first
      | (go_at_call 56; refine (ccode_any a len cap L w3 (H.out.mono B3.out) (Nat.le_trans HL8.out (by decide))).mono ?_; rw [HCL.out]; rintro e w4 ⟨v4, rfl, hf4, hb4⟩; obtain ⟨a4, c4, hv4, hr4⟩ := hf4.form' CL.length rfl; subst hv4; have R4 := Lib.hid hr4; have F4 := Lib.hid (F3.out.kept hb4); have T4 := Lib.hid (T3.out.below hb4 T3.out.lt); have B4 := Lib.hid (B3.out.trans (hb4.mono B3.out.size)); clear hf4 hr4 hb4 g0 g1 g2 g3 g4)
      | (at_builtin; refine append_rd rfl _ _ rfl (w.heap.size + 1) v3 E1 (by go_simp) F4.out a4 CL.length c4 CL (by go_simp) R4.out (by have := N1.out; have := NC.out; omega) (by have := T4.out.lt; omega) ?_; intro v5 w5 hf5 hb5 _; rw [HE2.out] at hf5; obtain ⟨a5, c5, hv5, hr5⟩ := hf5.form' E2.length rfl; subst hv5; have R5 := Lib.hid hr5; have T5 := Lib.hid (T4.out.below hb5 (Nat.lt_succ_self _)); have B5 := Lib.hid (B4.out.trans (hb5.mono (Nat.le_succ _))); clear hf5 hr5 hb5; obtain ⟨g0, g1, g2, g3, g4⟩ := T5.out.t5)
      | (go_at_call 57; refine (ptext a5 E2.length c5 tag E2 w5 R5.out (by rw [HSZ.out]; decide) (Nat.le_trans N2.out (by decide))).mono ?_; rw [HRR.out, ← HRL.out]; rintro e w6 ⟨rfl, hk6, hb6, hz6⟩; have F6 := Lib.hid (fr_of_blk hk6 B5.out.size R.length rfl (Nat.le_trans HRN.out (by decide))); have B6 := Lib.hid (B5.out.trans (hb6.mono B5.out.size)); clear hk6 hb6 hz6 g0 g1 g2 g3 g4))
    go_ret
    exact ⟨_, rfl, F6.out, B6.out⟩

set_option maxRecDepth 100000 in
set_option maxHeartbeats 4000000 in
theorem utput_any (a0 : Option Addr) (m0 c0 : Nat) (S : List UInt8) (lane id epoch : Int) (a : Option Addr) (len cap : Nat) (L : List Cv) (tag : ByteArray) (w : World) (hr : Rd w a0 m0 c0 S) (hm0 : m0 ≤ 3000) (h : Cvs w a len cap L) :
    Calls Tryd.prog 26 #[.slice a0 m0 c0, .agg #[.int .i64 lane, .int .i64 id, .int .i64 epoch, .slice a len cap, .string tag]] w fun e w' => ∃ v, e = .returned v ∧ Fr w' w.heap.size v (putT S lane id epoch L tag) ∧ Below w.heap.size w w' := by
  have H := Lib.hid h
  have HR := Lib.hid hr
  have HSL := Lib.hid hr.hlen
  have hlen := h.hlen
  obtain ⟨R, hR⟩ : ∃ R, putT S lane id epoch L tag = R := ⟨_, rfl⟩
  rw [hR]
  unfold putT at hR
  clear h hr
  rcases hok : tokOk lane id epoch L tag with _ | _
  · rw [hok, if_neg (by decide)] at hR
    subst hR
    have HE := Lib.hid (tokErr_no hok)
    clear hok hlen
    go_enter Tryd.func26, Tryd.ntmps26
    go_wp2_with (first
      | ((with_reducible refine box_row (o := ⟨some 3, _, _, _, _, _⟩) rfl _ _ rfl [.int .i64 lane, .int .i64 id, .int .i64 epoch, .slice a len cap, .string tag] rfl ?_); intro w1 hr1 hb1 hz1; have T1 := Lib.hid hr1; have B1 := Lib.hid hb1; clear hr1 hb1 hz1; obtain ⟨g0, g1, g2, g3, g4⟩ := T1.out.t5)
      | (go_at_call 41; refine (utcheck_any lane id epoch a len cap L tag w1 (H.out.mono B1.out)).mono ?_; rw [HE.out]; rintro e w2 ⟨rfl, hb2⟩; have B2 := Lib.hid (B1.out.trans (hb2.mono B1.out.size)); have T2 := Lib.hid (T1.out.below hb2 T1.out.lt); clear hb2 g0 g1 g2 g3 g4; obtain ⟨g0, g1, g2, g3, g4⟩ := T2.out.t5)
      | (at_builtin; refine append_rd rfl _ _ rfl w2.heap.size _ [] rfl (Fr.nil _ _) _ _ _ S rfl (HR.out.mono B2.out) (by simp; omega) (Nat.le_refl _) ?_; intro v3 w3 hf3 hb3 _; rw [List.nil_append] at hf3; have F3 := Lib.hid (hf3.base B2.out.size); have B3 := Lib.hid (B2.out.trans (hb3.mono B2.out.size)); clear hf3 hb3))
    go_ret
    exact ⟨_, rfl, F3.out, B3.out⟩
  · obtain ⟨hf, hsz, hl8⟩ := tokOk_facts hok
    rw [hok, if_pos rfl] at hR
    have HF := Lib.hid hf
    have HSZ := Lib.hid hsz
    have HL8 := Lib.hid (show len ≤ 8 by rw [← hlen]; exact hl8)
    have HE := Lib.hid (tokErr_ok hok)
    have hcl := codeL_len L hl8
    have l0 := encZ_len lane (hf lane (by simp))
    have l1 := encZ_len id (hf id (by simp))
    have l2 := encZ_len epoch (hf epoch (by simp))
    unfold encZ at l0 l1 l2
    have f0 := hf lane (by simp)
    have f1 := hf id (by simp)
    have f2 := hf epoch (by simp)
    rw [show S ++ [lane, id, epoch].flatMap encZ = S ++ enc lane.toNat ++ enc id.toNat ++ enc epoch.toNat by simp [encZ]] at hR
    obtain ⟨D0, hD0⟩ : ∃ D, S ++ enc lane.toNat = D := ⟨_, rfl⟩
    obtain ⟨D1, hD1⟩ : ∃ D, D0 ++ enc id.toNat = D := ⟨_, rfl⟩
    obtain ⟨E1, hE1⟩ : ∃ E1, D1 ++ enc epoch.toNat = E1 := ⟨_, rfl⟩
    obtain ⟨CL, hCL⟩ : ∃ CL, codeL L = CL := ⟨_, rfl⟩
    obtain ⟨E2, hE2⟩ : ∃ E2, E1 ++ CL = E2 := ⟨_, rfl⟩
    rw [hD0, hD1, hE1, hCL, hE2] at hR
    have k0 : D0.length ≤ 3009 := by rw [← hD0, List.length_append, HSL.out]; omega
    have k1 : D1.length ≤ 3018 := by rw [← hD1, List.length_append]; omega
    have h1 : E1.length ≤ 3027 := by rw [← hE1, List.length_append]; omega
    rw [hCL] at hcl
    have h2 : E2.length ≤ 3400 := by rw [← hE2, List.length_append]; omega
    have HD0 := Lib.hid hD0
    have HD1 := Lib.hid hD1
    have HE1 := Lib.hid hE1
    have HCL := Lib.hid hCL
    have HE2 := Lib.hid hE2
    have HRR := Lib.hid hR
    have K0 := Lib.hid k0
    have K1 := Lib.hid k1
    have N1 := Lib.hid h1
    have NC := Lib.hid hcl
    have N2 := Lib.hid h2
    have X0 := Lib.hid f0
    have X1 := Lib.hid f1
    have X2 := Lib.hid f2
    clear hR hok hlen hf hsz hl8 hcl hD0 hD1 hE1 hCL hE2 h1 h2 k0 k1 l0 l1 l2 f0 f1 f2
    go_enter Tryd.func26, Tryd.ntmps26
    go_wp2_with (first
      | ((with_reducible refine box_row (o := ⟨some 3, _, _, _, _, _⟩) rfl _ _ rfl [.int .i64 lane, .int .i64 id, .int .i64 epoch, .slice a len cap, .string tag] rfl ?_); intro w1 hr1 hb1 hz1; have T1 := Lib.hid hr1; have B1 := Lib.hid hb1; clear hr1 hb1 hz1; obtain ⟨g0, g1, g2, g3, g4⟩ := T1.out.t5)
      | (go_at_call 41; refine (utcheck_any lane id epoch a len cap L tag w1 (H.out.mono B1.out)).mono ?_; rw [HE.out]; rintro e w2 ⟨rfl, hb2⟩; have B2 := Lib.hid (B1.out.trans (hb2.mono B1.out.size)); have T2 := Lib.hid (T1.out.below hb2 T1.out.lt); clear hb2 g0 g1 g2 g3 g4; obtain ⟨g0, g1, g2, g3, g4⟩ := T2.out.t5))
    clear g0 g1 g2 g3 g4
    have D2 : Hid (Below w2.heap.size w2 w2.drew) := Lib.hid (Below.refl _ _).drew
    refine region_h (fun v => Below w2.heap.size w2 v) (by kernel_rfl) (by kernel_rfl) D2.out ?_
    obtain ⟨wd, hwd⟩ : ∃ wd, w2.drew = wd := ⟨_, rfl⟩
    rw [hwd] at D2 ⊢
    clear hwd
    (refine h_read 0 rfl (by kernel_rfl) (by kernel_rfl) (h_free rfl) ?_ ?_ ?_; rotate_left; (focus (intro v hv; go_simp; rfl)); go_simp)
    (refine h_read 1 rfl (by kernel_rfl) (by kernel_rfl) (h_free rfl) ?_ ?_ ?_; rotate_left; (focus (intro v hv; go_simp; rfl)); go_simp)
    (refine h_read 2 rfl (by kernel_rfl) (by kernel_rfl) (h_free rfl) ?_ ?_ ?_; rotate_left; (focus (intro v hv; obtain ⟨g0, g1, g2, g3, g4⟩ := (T2.out.below hv T2.out.lt).t5; go_simp; rfl)); go_simp)
    (refine h_read 4 rfl (by kernel_rfl) (by kernel_rfl) (h_free rfl) ?_ ?_ ?_; rotate_left; (focus (intro v hv; go_simp; rfl)); go_simp)
    (refine h_read 5 rfl (by kernel_rfl) (by kernel_rfl) (h_free rfl) ?_ ?_ ?_; rotate_left; (focus (intro v hv; obtain ⟨g0, g1, g2, g3, g4⟩ := (T2.out.below hv T2.out.lt).t5; go_simp; rfl)); go_simp)
    (refine h_read 7 rfl (by kernel_rfl) (by kernel_rfl) (h_free rfl) ?_ ?_ ?_; rotate_left; (focus (intro v hv; go_simp; rfl)); go_simp)
    (refine h_read 8 rfl (by kernel_rfl) (by kernel_rfl) (h_free rfl) ?_ ?_ ?_; rotate_left; (focus (intro v hv; obtain ⟨g0, g1, g2, g3, g4⟩ := (T2.out.below hv T2.out.lt).t5; go_simp; rfl)); go_simp)
    (refine h_call 3 rfl (by kernel_rfl) (h_free rfl) 39 ?_ ?_ ?_; rotate_left; (focus (go_simp; rfl)))
    refine (rnum a0 m0 c0 lane S wd ((HR.out.mono B2.out).mono D2.out) X0.out (by omega)).mono ?_
    rw [HD0.out]
    rintro e w3 ⟨v3, rfl, hf3, hb3⟩
    obtain ⟨a3, c3, hv3, hr3⟩ := hf3.form' D0.length rfl
    subst hv3
    have R3 := Lib.hid hr3
    have D3 := Lib.hid (D2.out.trans (hb3.mono D2.out.size))
    clear hf3 hb3 hr3
    refine ⟨_, rfl, D3.out, ?_⟩
    go_simp
    (refine h_call 6 rfl (by kernel_rfl) (h_free rfl) 39 ?_ ?_ ?_; rotate_left; (focus (go_simp; rfl)))
    refine (rnum a3 D0.length c3 id D0 w3 R3.out X1.out (Nat.le_trans K0.out (by decide))).mono ?_
    rw [HD1.out]
    rintro e w4 ⟨v4, rfl, hf4, hb4⟩
    obtain ⟨a4, c4, hv4, hr4⟩ := hf4.form' D1.length rfl
    subst hv4
    have R4 := Lib.hid hr4
    have D4 := Lib.hid (D3.out.trans (hb4.mono D3.out.size))
    clear hf4 hb4 hr4
    refine ⟨_, rfl, D4.out, ?_⟩
    go_simp
    (refine h_call 9 rfl (by kernel_rfl) (h_free rfl) 39 ?_ ?_ ?_; rotate_left; (focus (go_simp; rfl)))
    refine (rnum a4 D1.length c4 epoch D1 w4 R4.out X2.out (Nat.le_trans K1.out (by decide))).mono ?_
    rw [HE1.out]
    rintro e w5 ⟨v5, rfl, hf5, hb5⟩
    obtain ⟨a5, c5, hv5, hr5⟩ := hf5.form' E1.length rfl
    subst hv5
    have R5 := Lib.hid hr5
    have F5 := Lib.hid ((hf5.base (Nat.le_trans (Nat.succ_le_of_lt T2.out.lt) D4.out.size) : Fr w5 (w.heap.size + 1) (.slice a5 E1.length c5) E1))
    have D5 := Lib.hid (D4.out.trans (hb5.mono D4.out.size))
    clear hf5 hb5 hr5
    refine ⟨_, rfl, D5.out, ?_⟩
    go_simp
    (refine h_read 10 rfl (by kernel_rfl) (by kernel_rfl) (h_free rfl) ?_ ?_ ?_; rotate_left; (focus (intro v hv; go_simp; rfl)); go_simp)
    refine h_done (by kernel_rfl) ?_
    have B5 := Lib.hid (B2.out.trans (D5.out.mono B2.out.size))
    have T5 := Lib.hid (T2.out.below D5.out T2.out.lt)
    go_wp2_with fail
    have D6 : Hid (Below (w.heap.size + 1) w5 w5.drew) := Lib.hid (Below.refl _ _).drew
    refine region_h (fun v => Below (w.heap.size + 1) w5 v) (by kernel_rfl) (by kernel_rfl) D6.out ?_
    have F6 := Lib.hid (F5.out.kept ((Below.refl _ _).drew : Below w5.heap.size w5 w5.drew))
    have H6 := Lib.hid ((H.out.mono B5.out).mono ((Below.refl _ _).drew : Below w5.heap.size w5 w5.drew))
    obtain ⟨we, hwe⟩ : ∃ we, w5.drew = we := ⟨_, rfl⟩
    rw [hwe] at D6 F6 H6 ⊢
    clear hwe
    (refine h_read 0 rfl (by kernel_rfl) (by kernel_rfl) (h_free rfl) ?_ ?_ ?_; rotate_left; (focus (intro v hv; go_simp; rfl)); go_simp)
    (refine h_read 1 rfl (by kernel_rfl) (by kernel_rfl) (h_free rfl) ?_ ?_ ?_; rotate_left; (focus (intro v hv; go_simp; rfl)); go_simp)
    (refine h_read 2 rfl (by kernel_rfl) (by kernel_rfl) (h_free rfl) ?_ ?_ ?_; rotate_left; (focus (intro v hv; obtain ⟨g0, g1, g2, g3, g4⟩ := (T5.out.below hv (Nat.lt_succ_self _)).t5; go_simp; rfl)); go_simp)
    (refine h_read 5 rfl (by kernel_rfl) (by kernel_rfl) (h_free rfl) ?_ ?_ ?_; rotate_left; (focus (intro v hv; go_simp; rfl)); go_simp)
    (refine h_read 6 rfl (by kernel_rfl) (by kernel_rfl) (h_free rfl) ?_ ?_ ?_; rotate_left; (focus (intro v hv; obtain ⟨g0, g1, g2, g3, g4⟩ := (T5.out.below hv (Nat.lt_succ_self _)).t5; go_simp; rfl)); go_simp)
    (refine h_call 3 rfl (by kernel_rfl) (h_free rfl) 59 ?_ ?_ ?_; rotate_left; (focus (go_simp; rfl)))
    refine (ucode_any a len cap L we H6.out (Nat.le_trans HL8.out (by decide))).mono ?_
    rw [HCL.out]
    rintro e w7 ⟨v7, rfl, hf7, hb7⟩
    obtain ⟨a7, c7, hv7, hr7⟩ := hf7.form' CL.length rfl
    subst hv7
    have R7 := Lib.hid hr7
    have F7 := Lib.hid (F6.out.kept hb7)
    have D7 := Lib.hid (D6.out.trans (hb7.mono (Nat.le_trans (Nat.succ_le_of_lt T5.out.lt) D6.out.size)))
    clear hf7 hb7 hr7
    refine ⟨_, rfl, D7.out, ?_⟩
    go_simp
    (refine h_list 4 rfl (by kernel_rfl) ?_; intro K hK)
    refine append_rd rfl _ _ rfl (w.heap.size + 1) (.slice a5 E1.length c5) E1 (by go_simp) F7.out a7 CL.length c7 CL (by go_simp) R7.out (by have := N1.out; have := NC.out; omega) (Nat.le_trans (Nat.succ_le_of_lt T5.out.lt) D7.out.size) ?_
    intro v8 w8 hf8 hb8 _
    rw [HE2.out] at hf8
    obtain ⟨a8, c8, hv8, hr8⟩ := hf8.form' E2.length rfl
    subst hv8
    have R8 := Lib.hid hr8
    have D8 := Lib.hid (D7.out.trans hb8)
    clear hf8 hr8 hb8
    refine hK _ _ D8.out ?_
    go_simp
    (refine h_call 7 rfl (by kernel_rfl) (h_free rfl) 58 ?_ ?_ ?_; rotate_left; (focus (go_simp; rfl)))
    refine (rtext a8 E2.length c8 tag E2 w8 R8.out (by rw [HSZ.out]; decide) (Nat.le_trans N2.out (by decide))).mono ?_
    rw [HRR.out]
    rintro e w9 ⟨v9, rfl, hf9, hb9⟩
    have F9 := Lib.hid (hf9.base (Nat.le_trans (Nat.le_succ _) (Nat.le_trans (Nat.succ_le_of_lt T5.out.lt) D8.out.size)))
    have D9 := Lib.hid (D8.out.trans (hb9.mono (Nat.le_trans (Nat.succ_le_of_lt T5.out.lt) D8.out.size)))
    clear hf9 hb9
    refine ⟨_, rfl, D9.out, ?_⟩
    go_simp
    (refine h_read 8 rfl (by kernel_rfl) (by kernel_rfl) (h_free rfl) ?_ ?_ ?_; rotate_left; (focus (intro v hv; go_simp; rfl)); go_simp)
    refine h_done (by kernel_rfl) ?_
    go_wp2_with fail
    go_ret
    exact ⟨_, rfl, F9.out, B5.out.trans (D9.out.mono (Nat.le_succ _))⟩

end Go.Proofs.YtlclkikbocbenaaDoor.W
