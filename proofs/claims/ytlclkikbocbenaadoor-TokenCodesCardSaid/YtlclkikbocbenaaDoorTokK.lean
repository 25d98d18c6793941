/- LAYER 8 (token): what awake computes. LAYER 8 (token): awake. -/
import Derived.Test.YtlclkikbocbenaaDoorTokH
import Derived.Test.YtlclkikbocbenaaDoorTokJ
set_option linter.unusedSimpArgs false
set_option linter.unusedVariables false
namespace Go.Proofs.YtlclkikbocbenaaDoor.W
open Go Go.ChangeShapes Go.WideShapes Go.ChangeAt Go.RowKit
open Go.Proofs.YtlclkikbocbenaaDoor.P (enc)

def cvU : Cv := ⟨4, 5, ⟨#[]⟩⟩
theorem tk_fk : firstL [107] 1 2 3 = [114, 90, 138, 252, 26, 191, 224, 72, 193, 124, 25, 14, 18, 118, 160, 240, 150, 110, 176, 88, 78, 181, 191, 59, 202, 238, 102, 156, 47, 136, 41, 56] := by decide +kernel
theorem tk_fj : firstL [106] 1 2 3 = [11, 102, 103, 42, 14, 24, 58, 7, 27, 147, 13, 202, 229, 66, 20, 26, 149, 131, 33, 229, 150, 244, 96, 185, 172, 83, 158, 64, 42, 5, 241, 30] := by decide +kernel
theorem tk_nk : nextL [114, 90, 138, 252, 26, 191, 224, 72, 193, 124, 25, 14, 18, 118, 160, 240, 150, 110, 176, 88, 78, 181, 191, 59, 202, 238, 102, 156, 47, 136, 41, 56] cvU = [65, 78, 80, 37, 76, 38, 196, 79, 138, 157, 30, 243, 54, 146, 35, 40, 242, 174, 200, 1, 81, 238, 72, 161, 98, 26, 74, 46, 224, 127, 227, 233] := by decide +kernel
theorem tk_nj : nextL [11, 102, 103, 42, 14, 24, 58, 7, 27, 147, 13, 202, 229, 66, 20, 26, 149, 131, 33, 229, 150, 244, 96, 185, 172, 83, 158, 64, 42, 5, 241, 30] cvU = [59, 94, 18, 159, 147, 47, 207, 242, 85, 86, 76, 204, 130, 100, 210, 54, 17, 230, 80, 224, 209, 128, 106, 241, 188, 153, 162, 114, 146, 246, 96, 32] := by decide +kernel
theorem tk_ne1 : nextL (firstL [107] 1 2 3) cvU ≠ nextL (firstL [106] 1 2 3) cvU := by rw [tk_fk, tk_fj, tk_nk, tk_nj]; decide
theorem tk_ne2 : nextL (firstL [107] 1 2 3) cvU ≠ firstL [107] 1 2 3 := by rw [tk_fk, tk_nk]; decide
theorem cvU_ok : cvU.ok = true := by decide +kernel
theorem cvU_fit : cvU.fit := by unfold Cv.fit cvU; decide
theorem tokOk_small (L : List Cv) (tag : ByteArray) (h : tag.size = 32) (hL : L = [] ∨ L = [cvU]) : tokOk 1 2 3 L tag = true := by
  unfold tokOk
  rw [decide_eq_true h]
  rcases hL with rfl | rfl
  · rfl
  · simp [headV, cvU_ok]

theorem chainL_nil (t : List UInt8) : chainL t [] = t := rfl
theorem chainL_one (t : List UInt8) (c : Cv) : chainL t [c] = nextL t c := rfl
theorem k107 : (⟨#[107]⟩ : ByteArray).data.toList = [107] := rfl
theorem k106 : (⟨#[106]⟩ : ByteArray).data.toList = [106] := rfl
theorem tk_awake (S T : ByteArray) (hS : str (firstL [107] 1 2 3) = S) (hT : str (nextL S.data.toList cvU) = T) :
    mintV [107] 1 2 3 = .tuple #[.agg (tokC 1 2 3 (.slice none 0 0) S).toArray, .int .i64 0] ∧ openV ⟨#[107]⟩ 1 2 3 [] S = true ∧ openV ⟨#[107]⟩ 1 2 3 [cvU] T = true ∧ openV ⟨#[106]⟩ 1 2 3 [cvU] T = false ∧ (T.toList == S.toList) = false := by
  have hSs : S.size = 32 := by rw [← hS, str_size]; exact tagL_len _ _
  have hSd : S.data.toList = firstL [107] 1 2 3 := by rw [← hS, str_data]
  have hTs : T.size = 32 := by rw [← hT, str_size]; exact tagL_len _ _
  have hTd : T.data.toList = nextL (firstL [107] 1 2 3) cvU := by rw [← hT, str_data, hSd]
  have h1 : headV 1 2 3 = true := by decide
  refine ⟨?_, ?_, ?_, ?_, ?_⟩
  · unfold mintV; rw [if_pos h1, hS]
  · unfold openV; rw [tokOk_small [] S hSs (.inl rfl), Bool.true_and, k107, chainL_nil]; exact decide_eq_true hSd
  · unfold openV; rw [tokOk_small [cvU] T hTs (.inr rfl), Bool.true_and, k107, chainL_one]; exact decide_eq_true hTd
  · unfold openV; rw [tokOk_small [cvU] T hTs (.inr rfl), hTd, Bool.true_and, k106, chainL_one]; exact decide_eq_false tk_ne1
  · rw [str_eqb, hTd, hSd]; exact decide_eq_false tk_ne2

end Go.Proofs.YtlclkikbocbenaaDoor.W

namespace Go.Proofs.YtlclkikbocbenaaDoor.W
open Go Go.ChangeShapes Go.WideShapes Go.ChangeAt Go.RowKit
open Go.Proofs.YtlclkikbocbenaaDoor.P (enc)

set_option maxRecDepth 100000 in
set_option maxHeartbeats 4000000 in
theorem awake8 (w : World) (hK : Ks w) : Calls Tryd.prog 8 #[] w fun e w' => e = .returned (.bool true) ∧ Below w.heap.size w w' := by
  have HK := Lib.hid hK
  have TZ := Lib.hid tok_zero
  have TS := Lib.hid tok_size
  obtain ⟨S, hS⟩ : ∃ S, str (firstL [107] 1 2 3) = S := ⟨_, rfl⟩
  have hSs : S.size = 32 := by rw [← hS, str_size]; exact tagL_len _ _
  obtain ⟨T, hT⟩ : ∃ T, str (nextL S.data.toList cvU) = T := ⟨_, rfl⟩
  obtain ⟨hV, hO1, hO2, hO3, hTL⟩ := tk_awake S T hS hT
  have HV := Lib.hid hV
  have HO1 := Lib.hid hO1
  have HO2 := Lib.hid hO2
  have HO3 := Lib.hid hO3
  have HTL := Lib.hid hTL
  have HOK := Lib.hid (tokOk_small [] S hSs (.inl rfl))
  have HT := Lib.hid hT
  clear hK hS hSs hT hV hO1 hO2 hO3 hTL
  go_enter Tryd.func8, Tryd.ntmps8
  go_wp2_with (first
    | (go_at_call 9; refine (mint_any ⟨#[107]⟩ 1 2 3 w HK.out (by decide) (by decide)).mono ?_; rw [HV.out]; rintro e w1 ⟨rfl, hb1⟩; have B1 := Lib.hid hb1; clear hb1)
    | ((with_reducible refine alloc_row (o := ⟨some 1, _, _, _, _, _⟩) rfl _ rfl _ TZ.out ?_); intro w2 hr2 hb2 hz2; have A2 := Lib.hid hr2; have B2 := Lib.hid (B1.out.trans (hb2.mono B1.out.size)); clear hr2 hb2 hz2)
    | ((with_reducible refine store_row (o := ⟨none, _, _, _, _, _⟩) rfl _ (.tmp 1) _ rfl w1.heap.size (tokC 1 2 3 (.slice none 0 0) S) ?_ ?_ 25 _ A2.out ?_ ?_ ?_ ?_); (focus go_simp); (focus go_simp); (focus (exact TS.out)); (focus rfl); (focus (exact tok_one _ _ _ _ _ _ _)); intro w3 hr3 hu3; have A3 := Lib.hid hr3; have B3 := Lib.hid (B2.out.trans (hu3.below B1.out.size)); clear hr3 hu3; obtain ⟨g0, g1, g2, g3, g4⟩ := A3.out.t5)
    | (go_at_call 31; refine (weaker_ok 1 2 3 none 0 0 [] S 4 5 ⟨#[]⟩ w3 (HK.out.below B3.out HK.out.pos) (Cvs_nil w3) cvU_fit HOK.out cvU_ok (by decide)).mono ?_; rw [show (⟨4, 5, ⟨#[]⟩⟩ : Cv) = cvU from rfl, HT.out]; rintro e w4 ⟨g, rfl, -, hc4, hb4⟩; have L4 := Lib.hid (show Cvs w4 (some ⟨g, 0, none⟩) 1 1 [cvU] from hc4); have A4 := Lib.hid (A3.out.below hb4 A3.out.lt); have B4 := Lib.hid (B3.out.trans (hb4.mono B3.out.size)); clear hc4 hb4 g0 g1 g2 g3 g4)
    | ((with_reducible refine alloc_row (o := ⟨some 3, _, _, _, _, _⟩) rfl _ rfl _ TZ.out ?_); intro w5 hr5 hb5 hz5; have U5 := Lib.hid hr5; have A5 := Lib.hid (A4.out.below hb5 A4.out.lt); have D5 := Lib.hid hb5; have B5 := Lib.hid (B4.out.trans (hb5.mono B4.out.size)); have NE := Lib.hid (Nat.ne_of_lt A4.out.lt); clear hr5 hb5 hz5)
    | ((with_reducible refine store_row (o := ⟨none, _, _, _, _, _⟩) rfl _ (.tmp 3) _ rfl w4.heap.size (tokC 1 2 3 (.slice (some ⟨g, 0, none⟩) 1 1) T) ?_ ?_ 25 _ U5.out ?_ ?_ ?_ ?_); (focus go_simp); (focus go_simp); (focus (exact TS.out)); (focus rfl); (focus (exact tok_one _ _ _ _ _ _ _)); intro w6 hr6 hu6; have U6 := Lib.hid hr6; have A6 := Lib.hid (A5.out.upd hu6 NE.out); have L6 := Lib.hid (L4.out.mono (D5.out.trans (hu6.below (Nat.le_refl _)))); have B6 := Lib.hid (B5.out.trans (hu6.below B4.out.size)); clear hr6 hu6; obtain ⟨g0, g1, g2, g3, g4⟩ := A6.out.t5; obtain ⟨f0, f1, f2, f3, f4⟩ := U6.out.t5)
    | (go_at_call 16; first
      | ((with_reducible refine (tkopen_any ⟨#[107]⟩ 1 2 3 none 0 0 [] S w6 (HK.out.below B6.out HK.out.pos) (by decide) (Cvs_nil w6)).mono ?_); rw [HO1.out]; rintro e w7 ⟨rfl, hb7⟩; have D7 := Lib.hid hb7; clear hb7 g0 g1 g2 g3 g4 f0 f1 f2 f3 f4; obtain ⟨f0, f1, f2, f3, f4⟩ := (U6.out.below D7.out U6.out.lt).t5)
      | ((with_reducible refine (tkopen_any ⟨#[107]⟩ 1 2 3 (some ⟨g, 0, none⟩) 1 1 [cvU] T w7 (HK.out.below (B6.out.trans (D7.out.mono B6.out.size)) HK.out.pos) (by decide) (L6.out.mono D7.out)).mono ?_); rw [HO2.out]; rintro e w8 ⟨rfl, hb8⟩; have D8 := Lib.hid (D7.out.trans (hb8.mono D7.out.size)); clear hb8 f0 f1 f2 f3 f4; obtain ⟨f0, f1, f2, f3, f4⟩ := (U6.out.below D8.out U6.out.lt).t5)
      | ((with_reducible refine (tkopen_any ⟨#[106]⟩ 1 2 3 (some ⟨g, 0, none⟩) 1 1 [cvU] T w8 (HK.out.below (B6.out.trans (D8.out.mono B6.out.size)) HK.out.pos) (by decide) (L6.out.mono D8.out)).mono ?_); rw [HO3.out]; rintro e w9 ⟨rfl, hb9⟩; have D9 := Lib.hid (D8.out.trans (hb9.mono D8.out.size)); clear hb9 f0 f1 f2 f3 f4; obtain ⟨f0, f1, f2, f3, f4⟩ := (U6.out.below D9.out U6.out.lt).t5; obtain ⟨g0, g1, g2, g3, g4⟩ := (A6.out.below D9.out A6.out.lt).t5)))
  go_ret
  exact ⟨by rw [HTL.out]; rfl, B6.out.trans (D9.out.mono B6.out.size)⟩

end Go.Proofs.YtlclkikbocbenaaDoor.W
