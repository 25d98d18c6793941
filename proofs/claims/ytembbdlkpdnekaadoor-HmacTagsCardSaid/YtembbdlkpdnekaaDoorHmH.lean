/- THE LAW HmacTags: any text's tag under any key is what the standard says. -/
import Derived.Test.YtembbdlkpdnekaaDoorHmG
import Derived.Test.YtembbdlkpdnekaaDoorHmC
namespace Go.Proofs.YtembbdlkpdnekaaDoor.W
open Go.ChangeShapes Go.WideShapes Go.ChangeAt Go.RowKit
open Go.Proofs.YtembbdlkpdnekaaDoor.P

set_option maxRecDepth 100000 in
set_option maxHeartbeats 4000000 in
theorem law_HmacTags (s : ByteArray) (a : Option Addr) (len cap : Nat) (zs : List Int) (w : World) (hK : Ks w) (hs : s.size ≤ maxLen) (w1 : IsRow .u8 w a len cap zs) :
    Calls Tryd.prog 8 #[.string s, .slice a len cap] w fun e w' => e = .returned (.bool true) ∧ Below w.heap.size w w' := by
  have hr := Rd.of_row w1
  obtain ⟨l, hl⟩ : ∃ l, (zs.take len).map (fun n => UInt8.ofNat n.toNat) = l := ⟨_, rfl⟩
  rw [hl] at hr
  have hle := hr.hle
  have hmax := hr.hmax
  have HR := Lib.hid hr
  have HK := Lib.hid hK
  unfold maxLen at hs
  clear hl w1 hr hK
  by_cases h1 : 500 < s.size
  · go_enter Tryd.func8, Tryd.ntmps8
    go_wp2_with (go_at_call 28; refine (awake4 _ HK.out).mono ?_; rintro e w' ⟨rfl, hb⟩)
    go_ret
    exact ⟨rfl, by assumption⟩
  · by_cases h2 : 1500 < len
    · go_enter Tryd.func8, Tryd.ntmps8
      go_wp2_with (go_at_call 28; refine (awake4 _ HK.out).mono ?_; rintro e w' ⟨rfl, hb⟩)
      go_ret
      exact ⟨rfl, by assumption⟩
    · obtain ⟨S, hS⟩ : ∃ S, str (tagL s.data.toList l) = S := ⟨_, rfl⟩
      have HT2 := Lib.hid hS
      clear hS
      go_enter Tryd.func8, Tryd.ntmps8
      go_wp2_with fail
      refine (tag_any s a len cap l w HK.out (by omega) HR.out (by omega)).mono ?_
      rw [HT2.out]
      rintro e w3 ⟨rfl, hb3⟩
      have HB3 := Lib.hid hb3
      clear hb3
      go_wp2_with fail
      refine (rtag_any s a len cap l w3 (by omega) (HR.out.mono HB3.out) (by omega)).mono ?_
      rw [HT2.out]
      rintro e w4 ⟨rfl, hb4⟩
      have HB4 := Lib.hid (HB3.out.trans (hb4.mono HB3.out.size))
      clear hb4
      go_wp2_with fail
      refine (awake4 w4 (HK.out.below HB4.out HK.out.pos)).mono ?_
      rintro e w5 ⟨rfl, hb5⟩
      go_wp2_with fail
      go_ret
      exact ⟨rfl, HB4.out.trans (hb5.mono HB4.out.size)⟩

end Go.Proofs.YtembbdlkpdnekaaDoor.W
