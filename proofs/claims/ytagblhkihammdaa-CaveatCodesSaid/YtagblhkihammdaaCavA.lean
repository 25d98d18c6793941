/- LAYER 6 (caveat): awake. -/
import Derived.Test.YtagblhkihammdaaCavT
namespace Go.Proofs.Ytagblhkihammdaa.W
open Go.ChangeShapes Go.WideShapes Go.ChangeAt Go.RowKit

def cv5 : Cv := ⟨4, 5, ⟨#[]⟩⟩
def dd5 (n : Int) : Dd := ⟨0, n, 0, 0, ⟨#[]⟩, ⟨#[]⟩⟩
theorem cv5_fit : cv5.fit := ⟨by decide, by decide, by decide⟩
theorem dd5_fit5 : (dd5 5).fit := ⟨by decide, by decide, by decide, by decide, by decide, by decide⟩
theorem dd5_fit6 : (dd5 6).fit := ⟨by decide, by decide, by decide, by decide, by decide, by decide⟩
theorem cv5_ok : cv5.ok = true := by decide +kernel
theorem cv5_5 : holdsV cv5 (dd5 5) = true := by decide +kernel
theorem cv5_6 : holdsV cv5 (dd5 6) = false := by decide +kernel
theorem cv5_put : putL cv5 = [4, 5] := by decide +kernel
theorem name_a : nameV ⟨#[97]⟩ = true := by decide +kernel
theorem name_A : nameV ⟨#[65]⟩ = false := by decide +kernel

set_option maxHeartbeats 1000000 in
theorem awake6 (w : World) :
    Calls Try.prog 6 #[] w fun e w' => e = .returned (.bool true) ∧ Below w.heap.size w w' := by
  have F5 := Lib.hid cv5_fit
  have OK5 := Lib.hid cv5_ok
  have H5 := Lib.hid cv5_5
  have H6 := Lib.hid cv5_6
  have D5 := Lib.hid dd5_fit5
  have D6 := Lib.hid dd5_fit6
  have P5 := Lib.hid cv5_put
  have NA := Lib.hid name_a
  have NB := Lib.hid name_A
  have SA := Lib.hid (show ByteArray.size ⟨#[97]⟩ ≤ maxLen by decide)
  have SB := Lib.hid (show ByteArray.size ⟨#[65]⟩ ≤ maxLen by decide)
  go_enter Try.func6, Try.ntmps6
  go_wp2_with fail
  obtain ⟨w1, hw1⟩ : ∃ w1, w1 = w.alloc (.cells #[.int .i64 4, .int .i64 5, .string ⟨#[]⟩] 23) := ⟨_, rfl⟩
  rw [← hw1]
  have HR1 := Lib.hid (show Row w1 w.heap.size 23 [.int .i64 4, .int .i64 5, .string ⟨#[]⟩] by rw [hw1]; exact Row.new _ _ _)
  have HB1 := Lib.hid (show Below w.heap.size w w1 by rw [hw1]; exact (Below.refl _ _).alloc (Nat.le_refl _) _)
  clear hw1
  refine (cholds cv5 (dd5 5) w1 F5.out D5.out).mono ?_
  rw [H5.out]
  rintro e w2 ⟨rfl, hb2⟩
  have HR2 := Lib.hid (HR1.out.below hb2 HR1.out.lt)
  have HB2 := Lib.hid (HB1.out.trans (hb2.mono HB1.out.size))
  clear hb2
  have f0 := HR2.out.c0
  have f1 := HR2.out.c1
  have f2 := HR2.out.c2
  go_wp2_with fail
  refine (cholds cv5 (dd5 6) w2 F5.out D6.out).mono ?_
  rw [H6.out]
  rintro e w3 ⟨rfl, hb3⟩
  have HR3 := Lib.hid (HR2.out.below hb3 HR2.out.lt)
  have HB3 := Lib.hid (HB2.out.trans (hb3.mono HB2.out.size))
  clear hb3 f0 f1 f2
  have f0 := HR3.out.c0
  have f1 := HR3.out.c1
  have f2 := HR3.out.c2
  go_wp2_with fail
  refine (cput_ok cv5 none 0 0 [] w3 F5.out OK5.out (Rd_nil w3) (by decide)).mono ?_
  rw [List.nil_append, P5.out]
  rintro e w4 ⟨g, n, rfl, hn, hk4, hb4, hg4⟩
  obtain rfl : 2 = n := hn
  have HK4 := Lib.hid hk4
  have HB4 := Lib.hid (HB3.out.trans (hb4.mono HB3.out.size))
  clear hk4 hb4 hg4 f0 f1 f2
  go_wp2_with fail
  refine (sequal _ _ 2 2 2 2 [4, 5] [4, 5] _ ((HK4.out.rd' 2 rfl (by decide)).mono ((Below.refl _ _).alloc (Nat.le_refl _) _)) (rd_new w4 [4, 5] _ _ rfl (by decide))).mono ?_
  rw [show decide (([4, 5] : List UInt8) = [4, 5]) = true from by decide]
  rintro e w5 ⟨rfl, hq⟩
  have HB5 := Lib.hid ((HB4.out.alloc HB4.out.size (.cells #[.int .u8 4, .int .u8 5] 5)).trans (hq.below _))
  clear hq
  go_wp2_with fail
  refine (cname _ _ SA.out).mono ?_
  rw [NA.out]
  rintro e w' ⟨rfl, rfl⟩
  go_wp2_with fail
  refine (cname _ _ SB.out).mono ?_
  rw [NB.out]
  rintro e w' ⟨rfl, rfl⟩
  go_wp2_with fail
  go_ret
  exact ⟨rfl, HB5.out⟩

end Go.Proofs.Ytagblhkihammdaa.W
