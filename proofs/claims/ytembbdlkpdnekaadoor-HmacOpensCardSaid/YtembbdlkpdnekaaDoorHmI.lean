/- THE LAW HmacOpens: a tag opens its text, and any other does not. -/
import Derived.Test.YtembbdlkpdnekaaDoorHmG
import Derived.Test.YtembbdlkpdnekaaDoorHmE
namespace Go.Proofs.YtembbdlkpdnekaaDoor.W
open Go.ChangeShapes Go.WideShapes Go.ChangeAt Go.RowKit
open Go.Proofs.YtembbdlkpdnekaaDoor.P

set_option maxRecDepth 100000 in
set_option maxHeartbeats 4000000 in
theorem open_any (s : ByteArray) (a : Option Addr) (len cap : Nat) (t : List UInt8) (g S : ByteArray) (d : Bool) (w : World) (hK : Ks w) (hs : s.size ≤ 50000000000000) (hr : Rd w a len cap t) (hmax : len ≤ 50000000000000) (hg : g.size ≤ 50000000000000)
    (hS : str (tagL s.data.toList t) = S) (hd : decide (g.data.toList = S.data.toList) = d) :
    Calls Tryd.prog 34 #[.string s, .slice a len cap, .string g] w fun e w' => e = .returned (.bool d) ∧ Below w.heap.size w w' := by
  have hsz : S.size = 32 := by rw [← hS, str_size, tagL_len]
  have HK := Lib.hid hK
  have HR := Lib.hid hr
  have HS := Lib.hid hS
  have HD := Lib.hid hd
  clear hK hr hS hd
  go_enter Tryd.func34, Tryd.ntmps34
  go_wp2_with fail
  refine (tag_any s a len cap t w HK.out hs HR.out hmax).mono ?_
  rw [HS.out]
  rintro e w1 ⟨rfl, hb1⟩
  have HB1 := Lib.hid hb1
  clear hb1
  go_wp2_with fail
  refine (equal_any g S w1 (by omega) (by omega)).mono ?_
  rw [HD.out]
  rintro e w2 ⟨rfl, rfl⟩
  go_wp2_with fail
  go_ret
  exact ⟨rfl, HB1.out⟩

set_option maxRecDepth 100000 in
set_option maxHeartbeats 4000000 in
theorem law_HmacOpens (s : ByteArray) (a : Option Addr) (len cap : Nat) (zs : List Int) (g : ByteArray) (w : World) (hK : Ks w) (hs : s.size ≤ maxLen) (w1 : IsRow .u8 w a len cap zs) (hgs : g.size ≤ maxLen) :
    Calls Tryd.prog 11 #[.string s, .slice a len cap, .string g] w fun e w' => e = .returned (.bool true) ∧ Below w.heap.size w w' := by
  have hr := Rd.of_row w1
  obtain ⟨l, hl⟩ : ∃ l, (zs.take len).map (fun n => UInt8.ofNat n.toNat) = l := ⟨_, rfl⟩
  rw [hl] at hr
  have hle := hr.hle
  have hmax := hr.hmax
  have HR := Lib.hid hr
  have HK := Lib.hid hK
  unfold maxLen at hs hgs
  clear hl w1 hr hK
  by_cases h1 : 500 < s.size
  · go_enter Tryd.func11, Tryd.ntmps11
    go_wp2_with (go_at_call 28; refine (awake4 _ HK.out).mono ?_; rintro e w' ⟨rfl, hb⟩)
    go_ret
    exact ⟨rfl, by assumption⟩
  by_cases h2 : 1500 < len
  · go_enter Tryd.func11, Tryd.ntmps11
    go_wp2_with (go_at_call 28; refine (awake4 _ HK.out).mono ?_; rintro e w' ⟨rfl, hb⟩)
    go_ret
    exact ⟨rfl, by assumption⟩
  by_cases h3 : 500 < g.size
  · go_enter Tryd.func11, Tryd.ntmps11
    go_wp2_with (go_at_call 28; refine (awake4 _ HK.out).mono ?_; rintro e w' ⟨rfl, hb⟩)
    go_ret
    exact ⟨rfl, by assumption⟩
  obtain ⟨S, hS⟩ : ∃ S, str (tagL s.data.toList l) = S := ⟨_, rfl⟩
  have hsz : S.size = 32 := by rw [← hS, str_size, tagL_len]
  have HT2 := Lib.hid hS
  clear hS
  have HD : Hid (decide (g.data.toList = S.data.toList) = decide (g = S)) := by
    apply Lib.hid
    by_cases he : g = S
    · simp [he]
    · rw [decide_eq_false he, decide_eq_false]
      intro h
      exact he (by cases g; cases S; simp at h ⊢; exact h)
  go_enter Tryd.func11, Tryd.ntmps11
  go_wp2_with fail
  refine (rtag_any s a len cap l w (by omega) HR.out (by omega)).mono ?_
  rw [HT2.out]
  rintro e w3 ⟨rfl, hb3⟩
  have HB3 := Lib.hid hb3
  clear hb3
  go_wp2_with fail
  refine (open_any s a len cap l S S true w3 (HK.out.below HB3.out HK.out.pos) (by omega) (HR.out.mono HB3.out) (by omega) (by omega) HT2.out (by simp)).mono ?_
  rintro e w4 ⟨rfl, hb4⟩
  have HB4 := Lib.hid (HB3.out.trans (hb4.mono HB3.out.size))
  clear hb4
  go_wp2_with fail
  refine (open_any s a len cap l g S (decide (g = S)) w4 (HK.out.below HB4.out HK.out.pos) (by omega) (HR.out.mono HB4.out) (by omega) (by omega) HT2.out HD.out).mono ?_
  rintro e w5 ⟨rfl, hb5⟩
  have HB5 := Lib.hid (HB4.out.trans (hb5.mono HB4.out.size))
  clear hb5
  have HQ := Lib.hid (show decide (g = S) = (g.toList == S.toList) by rw [str_eqb, HD.out])
  go_wp2_with fail
  refine (awake4 w5 (HK.out.below HB5.out HK.out.pos)).mono ?_
  rintro e w6 ⟨rfl, hb6⟩
  go_wp2_with fail
  go_ret
  exact ⟨rfl, HB5.out.trans (hb6.mono HB5.out.size)⟩

end Go.Proofs.YtembbdlkpdnekaaDoor.W
