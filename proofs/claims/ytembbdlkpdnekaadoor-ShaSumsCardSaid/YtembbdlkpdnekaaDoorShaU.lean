/- THE LAW ShaSums: any text's sum is what the standard says; so is what stands behind a text. -/
import Derived.Test.YtembbdlkpdnekaaDoorShaS
namespace Go.Proofs.YtembbdlkpdnekaaDoor.W
open Go.ChangeShapes Go.WideShapes Go.ChangeAt Go.RowKit
open Go.Proofs.YtembbdlkpdnekaaDoor.P

theorem sequal_b (a a' : Option Addr) (n n' c c' : Nat) (l l' : List UInt8) (w : World) (d : Bool) (hr : Rd w a n c l) (hr' : Rd w a' n' c' l') (hd : decide (l = l') = d) :
    Calls Tryd.prog 21 #[.slice a n c, .slice a' n' c'] w fun e w' => e = .returned (.bool d) ∧ Quiet w w' := by
  subst hd; exact sequal a a' n n' c c' l l' w hr hr'

set_option maxRecDepth 100000 in
set_option maxHeartbeats 4000000 in
theorem law_ShaSums (a : Option Addr) (len cap : Nat) (zs : List Int) (n : Int) (w : World) (hK : Ks w) (w0 : IsRow .u8 w a len cap zs) (_w1 : (Lit.int .i64 n).wf = true) :
    Calls Tryd.prog 4 #[.slice a len cap, .int .i64 n] w fun e w' => e = .returned (.bool true) ∧ Below w.heap.size w w' := by
  have hr := Rd.of_row w0
  obtain ⟨l, hl⟩ : ∃ l, (zs.take len).map (fun n => UInt8.ofNat n.toNat) = l := ⟨_, rfl⟩
  rw [hl] at hr
  have hle := hr.hle
  have hmax := hr.hmax
  have HLL := Lib.hid hr.hlen
  have HR := Lib.hid hr
  have HK := Lib.hid hK
  clear hl w0 hr hK
  by_cases h1 : 3000 < len
  · go_enter Tryd.func4, Tryd.ntmps4
    go_wp2_with (go_at_call 17; refine (awake3 _ HK.out).mono ?_; rintro e w' ⟨rfl, hb⟩)
    go_ret
    exact ⟨rfl, by assumption⟩
  · obtain ⟨S, hS⟩ : ∃ S, str (shaL l) = S := ⟨_, rfl⟩
    have HS := Lib.hid hS
    obtain ⟨PL, hPL⟩ : ∃ p, padL (cl n) = p := ⟨_, rfl⟩
    have HPL := Lib.hid hPL
    obtain ⟨pn, hpn⟩ : ∃ m, PL.length = m := ⟨_, rfl⟩
    have HPN := Lib.hid hpn
    have hp80 : pn ≤ 80 := by rw [← hpn, ← hPL, padL_len]; have := zn_lt (cl n); omega
    clear hS hPL hpn
    go_enter Tryd.func4, Tryd.ntmps4
    go_wp2_with fail
    refine (sclone a len cap l w HR.out (by omega)).mono ?_
    rintro e w1 ⟨v1, rfl, hf1, hb1⟩
    obtain ⟨a1, c1, hv1, hr1⟩ := hf1.form' len HLL.out
    subst hv1
    have HB1 := Lib.hid hb1
    have HR1 := Lib.hid hr1
    clear hf1 hb1 hr1
    go_wp2_with fail
    refine (shasum_any a len cap l w1 (HK.out.below HB1.out HK.out.pos) (HR.out.mono HB1.out) (by omega)).mono ?_
    rw [HS.out]
    rintro e w2 ⟨rfl, hb2⟩
    have HB2 := Lib.hid (HB1.out.trans (hb2.mono HB1.out.size))
    have HR2 := Lib.hid (HR1.out.mono hb2)
    clear hb2
    go_wp2_with fail
    refine (rsum_any a len cap l w2 (HR.out.mono HB2.out) (by omega)).mono ?_
    rw [HS.out]
    rintro e w3 ⟨rfl, hb3⟩
    have HB3 := Lib.hid (HB2.out.trans (hb3.mono HB2.out.size))
    have HR3 := Lib.hid (HR2.out.mono hb3)
    clear hb3
    go_wp2_with fail
    refine (sequal_b a a1 len len cap c1 l l w3 true (HR.out.mono HB3.out) HR3.out (by simp)).mono ?_
    rintro e w4 ⟨rfl, hq4⟩
    have HB4 := Lib.hid (HB3.out.trans (hq4.below _))
    clear hq4
    go_wp2_with fail
    refine (pad_any n w4).mono ?_
    rw [HPL.out, HPN.out]
    rintro e w5 ⟨rfl, hk5, hb5, hz5⟩
    have HK5 := Lib.hid (hk5.rd' pn HPN.out (by omega))
    have HB5 := Lib.hid (HB4.out.trans (hb5.mono HB4.out.size))
    clear hk5 hb5 hz5
    go_wp2_with fail
    refine (rpad_any n w5).mono ?_
    rw [HPL.out]
    rintro e w6 ⟨v6, rfl, hf6, hb6⟩
    obtain ⟨a6, c6, hv6, hr6⟩ := hf6.form' pn HPN.out
    subst hv6
    have HR6 := Lib.hid hr6
    have HK6 := Lib.hid (HK5.out.mono hb6)
    have HB6 := Lib.hid (HB5.out.trans (hb6.mono HB5.out.size))
    clear hf6 hb6 hr6
    go_wp2_with fail
    refine (sequal_b _ a6 pn pn pn c6 PL PL w6 true HK6.out HR6.out (by simp)).mono ?_
    rintro e w7 ⟨rfl, hq7⟩
    have HB7 := Lib.hid (HB6.out.trans (hq7.below _))
    clear hq7
    go_wp2_with fail
    refine (awake3 w7 (HK.out.below HB7.out HK.out.pos)).mono ?_
    rintro e w8 ⟨rfl, hb8⟩
    go_wp2_with fail
    go_ret
    exact ⟨rfl, HB7.out.trans (hb8.mono HB7.out.size)⟩

end Go.Proofs.YtembbdlkpdnekaaDoor.W
