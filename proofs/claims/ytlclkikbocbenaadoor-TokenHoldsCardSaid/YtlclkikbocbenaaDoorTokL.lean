/- THE LAW TokenMints: a token of any lane, id and epoch is what the document says, or none. -/
import Derived.Test.YtlclkikbocbenaaDoorTokK
import Derived.Test.YtlclkikbocbenaaDoorTokE
set_option linter.unusedSimpArgs false
set_option linter.unusedVariables false
namespace Go.Proofs.YtlclkikbocbenaaDoor.W
open Go Go.ChangeShapes Go.WideShapes Go.ChangeAt Go.RowKit
open Go.Proofs.YtlclkikbocbenaaDoor.P (enc)

theorem mintV_form (k : List UInt8) (lane id epoch : Int) : ∃ l i e t r, mintV k lane id epoch = .tuple #[.agg (tokC l i e (.slice none 0 0) t).toArray, .int .i64 r] := by
  unfold mintV
  split
  · exact ⟨_, _, _, _, _, rfl⟩
  · exact ⟨_, _, _, _, _, rfl⟩
theorem tokSame_refl (l i e : Int) (t : ByteArray) : tokSame l i e [] t l i e [] t = true := by
  unfold tokSame
  simp [sameV]

set_option maxRecDepth 100000 in
set_option maxHeartbeats 4000000 in
theorem law_TokenMints (s : ByteArray) (lane id epoch : Int) (w : World) (hK : Ks w) (_w0 : s.size ≤ maxLen) (w1 : (Lit.int .i64 lane).wf = true) (w2 : (Lit.int .i64 id).wf = true) (w3 : (Lit.int .i64 epoch).wf = true) :
    Calls Tryd.prog 3 #[.string s, .int .i64 lane, .int .i64 id, .int .i64 epoch] w fun e w' => e = .returned (.bool true) ∧ Below w.heap.size w w' := by
  have HK := Lib.hid hK
  have TZ := Lib.hid tok_zero
  have TS := Lib.hid tok_size
  have HF := Lib.hid (three_fit lane id epoch (bd w1).2 (bd w2).2 (bd w3).2)
  clear hK w1 w2 w3
  by_cases h500 : 500 < s.size
  · go_enter Tryd.func3, Tryd.ntmps3
    go_wp2_with (go_at_call 8; refine (awake8 w HK.out).mono ?_; rintro e w4 ⟨rfl, hb4⟩)
    go_ret
    exact ⟨rfl, by assumption⟩
  have hs : s.size ≤ 50000000000000 := by omega
  obtain ⟨l, i, e, t, r, hV⟩ := mintV_form s.data.toList lane id epoch
  have HV := Lib.hid hV
  have hel := encz_len [lane, id, epoch] HF.out
  obtain ⟨E, hE⟩ : ∃ E, textT lane id epoch = E := ⟨_, rfl⟩
  have HE := Lib.hid hE
  have HSM := Lib.hid (tokSame_refl l i e t)
  clear hV hE hel
  go_enter Tryd.func3, Tryd.ntmps3
  go_wp2_with (first
    | (go_at_call 9; refine (mint_any s lane id epoch w HK.out hs HF.out).mono ?_; rw [HV.out]; rintro x w1 ⟨rfl, hb1⟩; have B1 := Lib.hid hb1; clear hb1)
    | ((with_reducible refine alloc_row (o := ⟨some 9, _, _, _, _, _⟩) rfl _ rfl _ TZ.out ?_); intro w2 hr2 hb2 hz2; have A2 := Lib.hid hr2; have B2 := Lib.hid (B1.out.trans (hb2.mono B1.out.size)); clear hr2 hb2 hz2)
    | ((with_reducible refine store_row (o := ⟨none, _, _, _, _, _⟩) rfl _ (.tmp 9) _ rfl w1.heap.size (tokC l i e (.slice none 0 0) t) ?_ ?_ 25 _ A2.out ?_ ?_ ?_ ?_); (focus go_simp); (focus go_simp); (focus (exact TS.out)); (focus rfl); (focus (exact tok_one _ _ _ _ _ _ _)); intro w3 hr3 hu3; have A3 := Lib.hid hr3; have B3 := Lib.hid (B2.out.trans (hu3.below B1.out.size)); clear hr3 hu3)
    | (go_at_call 10; refine (utmint_any s lane id epoch w3 hs HF.out).mono ?_; rw [HV.out]; rintro x w4 ⟨rfl, hb4⟩; have A4 := Lib.hid (A3.out.below hb4 A3.out.lt); have B4 := Lib.hid (B3.out.trans (hb4.mono B3.out.size)); have NE := Lib.hid (Nat.ne_of_lt A4.out.lt); clear hb4)
    | ((with_reducible refine alloc_row (o := ⟨some 11, _, _, _, _, _⟩) rfl _ rfl _ TZ.out ?_); intro w5 hr5 hb5 hz5; have U5 := Lib.hid hr5; have A5 := Lib.hid (A4.out.below hb5 A4.out.lt); have B5 := Lib.hid (B4.out.trans (hb5.mono B4.out.size)); clear hr5 hb5 hz5)
    | ((with_reducible refine store_row (o := ⟨none, _, _, _, _, _⟩) rfl _ (.tmp 11) _ rfl w4.heap.size (tokC l i e (.slice none 0 0) t) ?_ ?_ 25 _ U5.out ?_ ?_ ?_ ?_); (focus go_simp); (focus go_simp); (focus (exact TS.out)); (focus rfl); (focus (exact tok_one _ _ _ _ _ _ _)); intro w6 hr6 hu6; have U6 := Lib.hid hr6; have A6 := Lib.hid (A5.out.upd hu6 NE.out); have B6 := Lib.hid (B5.out.trans (hu6.below B4.out.size)); clear hr6 hu6; obtain ⟨g0, g1, g2, g3, g4⟩ := A6.out.t5; obtain ⟨f0, f1, f2, f3, f4⟩ := U6.out.t5)
    | (go_at_call 11; refine (utsame_any l i e none 0 0 [] t l i e none 0 0 [] t w6 (Cvs_nil w6) (Cvs_nil w6)).mono ?_; rw [HSM.out]; rintro x w7 ⟨rfl, hb7⟩; have B7 := Lib.hid (B6.out.trans (hb7.mono B6.out.size)); clear hb7 g0 g1 g2 g3 g4 f0 f1 f2 f3 f4)
    | (go_at_call 13; refine (text_any lane id epoch w7 HF.out).mono ?_; rw [HE.out]; rintro x w8 ⟨v8, rfl, hf8, hb8⟩; obtain ⟨a8, c8, hv8, hr8⟩ := hf8.form' E.length rfl; subst hv8; have R8 := Lib.hid hr8; have B8 := Lib.hid (B7.out.trans (hb8.mono B7.out.size)); clear hf8 hr8 hb8)
    | (go_at_call 14; refine (rtext08_any lane id epoch w8 HF.out).mono ?_; rw [HE.out]; rintro x w9 ⟨v9, rfl, hf9, hb9⟩; obtain ⟨a9, c9, hv9, hr9⟩ := hf9.form' E.length rfl; subst hv9; have R9 := Lib.hid hr9; have Q9 := Lib.hid (R8.out.mono hb9); have B9 := Lib.hid (B8.out.trans (hb9.mono B8.out.size)); clear hf9 hr9 hb9)
    | (go_at_call 12; refine (sequal a8 a9 E.length E.length c8 c9 E E w9 Q9.out R9.out).mono ?_; rw [decide_eq_true (rfl : E = E)]; rintro x w10 ⟨rfl, hq10⟩; have B10 := Lib.hid (B9.out.trans (hq10.below _)); clear hq10)
    | (go_at_call 8; refine (awake8 w10 (HK.out.below B10.out HK.out.pos)).mono ?_; rintro x w11 ⟨rfl, hb11⟩; have B11 := Lib.hid (B10.out.trans (hb11.mono B10.out.size)); clear hb11))
  go_ret
  exact ⟨rfl, B11.out⟩

end Go.Proofs.YtlclkikbocbenaaDoor.W
