/- CONTRACTS of layer 8 (token): Same of both. -/
import Derived.Test.YtlclkikbocbenaaDoorTokE
import Derived.Test.YtlclkikbocbenaaDoorCavS
set_option linter.unusedSimpArgs false
set_option linter.unusedVariables false
namespace Go.Proofs.YtlclkikbocbenaaDoor.W
open Go.ChangeShapes Go.WideShapes Go.ChangeAt Go.RowKit
open Go.Proofs.YtlclkikbocbenaaDoor.P (enc)

def tokSame (l1 i1 e1 : Int) (L1 : List Cv) (g1 : ByteArray) (l2 i2 e2 : Int) (L2 : List Cv) (g2 : ByteArray) : Bool := (l1 == l2) && ((i1 == i2) && ((e1 == e2) && (sameV L1 L2 && (g1.toList == g2.toList))))

set_option maxRecDepth 100000 in
set_option maxHeartbeats 1000000 in
theorem tksame_any (l1 i1 e1 : Int) (a1 : Option Addr) (n1 c1 : Nat) (L1 : List Cv) (g1 : ByteArray) (l2 i2 e2 : Int) (a2 : Option Addr) (n2 c2 : Nat) (L2 : List Cv) (g2 : ByteArray) (w : World) (h1 : Cvs w a1 n1 c1 L1) (h2 : Cvs w a2 n2 c2 L2) :
    Calls Tryd.prog 20 #[.agg #[.int .i64 l1, .int .i64 i1, .int .i64 e1, .slice a1 n1 c1, .string g1], .agg #[.int .i64 l2, .int .i64 i2, .int .i64 e2, .slice a2 n2 c2, .string g2]] w fun e w' => e = .returned (.bool (tokSame l1 i1 e1 L1 g1 l2 i2 e2 L2 g2)) ∧ Below w.heap.size w w' := by
  have H1 := Lib.hid h1
  have H2 := Lib.hid h2
  obtain ⟨R, hR⟩ : ∃ R, tokSame l1 i1 e1 L1 g1 l2 i2 e2 L2 g2 = R := ⟨_, rfl⟩
  rw [hR]
  unfold tokSame at hR
  clear h1 h2
  rcases hb1 : (l1 == l2) with _ | _
  · have HRR := Lib.hid (show R = false by rw [← hR, hb1, Bool.false_and])
    have SV := Lib.hid (rfl : sameV L1 L2 = sameV L1 L2)
    clear hR
    go_enter Tryd.func20, Tryd.ntmps20
    go_wp2_with (first
      | ((with_reducible refine box_row (o := ⟨some 2, _, _, _, _, _⟩) rfl _ _ rfl [.int .i64 l1, .int .i64 i1, .int .i64 e1, .slice a1 n1 c1, .string g1] rfl ?_); intro w1 hr1 hb1 hz1; have HR1 := Lib.hid hr1; have HB1 := Lib.hid hb1; clear hr1 hb1 hz1)
      | ((with_reducible refine box_row (o := ⟨some 3, _, _, _, _, _⟩) rfl _ _ rfl [.int .i64 l2, .int .i64 i2, .int .i64 e2, .slice a2 n2 c2, .string g2] rfl ?_); intro w2 hr2 hb2 hz2; have HR2 := Lib.hid hr2; have HT1 := Lib.hid (HR1.out.below hb2 HR1.out.lt); have HB2 := Lib.hid (HB1.out.trans (hb2.mono HB1.out.size)); clear hr2 hb2 hz2; have q0 := HT1.out.cellV 0; have q1 := HT1.out.cellV 1; have q2 := HT1.out.cellV 2; have q3 := HT1.out.cellV 3; have q4 := HT1.out.cellV 4; have r0 := HR2.out.cellV 0; have r1 := HR2.out.cellV 1; have r2 := HR2.out.cellV 2; have r3 := HR2.out.cellV 3; have r4 := HR2.out.cellV 4; simp only [List.getElem?_cons_zero, List.getElem?_cons_succ] at q0 q1 q2 q3 q4 r0 r1 r2 r3 r4)
      | (go_at_call 44; refine ((csame_any a1 a2 n1 n2 c1 c2 L1 L2 w2 (H1.out.mono HB2.out) (H2.out.mono HB2.out))).mono ?_; rw [SV.out]; rintro e w3 ⟨rfl, hb3⟩; have HR3 := Lib.hid (HR2.out.below hb3 HR2.out.lt); have HT3 := Lib.hid (HT1.out.below hb3 HT1.out.lt); have HB3 := Lib.hid (HB2.out.trans (hb3.mono HB2.out.size)); clear hb3 q0 q1 q2 q3 q4 r0 r1 r2 r3 r4; have q4 := HT3.out.cellV 4; have r4 := HR3.out.cellV 4; simp only [List.getElem?_cons_zero, List.getElem?_cons_succ] at q4 r4))
    go_ret
    exact ⟨by rw [HRR.out]; rfl, HB2.out⟩
  rw [hb1, Bool.true_and] at hR
  rcases hb2 : (i1 == i2) with _ | _
  · have HRR := Lib.hid (show R = false by rw [← hR, hb2, Bool.false_and])
    have SV := Lib.hid (rfl : sameV L1 L2 = sameV L1 L2)
    clear hR
    go_enter Tryd.func20, Tryd.ntmps20
    go_wp2_with (first
      | ((with_reducible refine box_row (o := ⟨some 2, _, _, _, _, _⟩) rfl _ _ rfl [.int .i64 l1, .int .i64 i1, .int .i64 e1, .slice a1 n1 c1, .string g1] rfl ?_); intro w1 hr1 hb1 hz1; have HR1 := Lib.hid hr1; have HB1 := Lib.hid hb1; clear hr1 hb1 hz1)
      | ((with_reducible refine box_row (o := ⟨some 3, _, _, _, _, _⟩) rfl _ _ rfl [.int .i64 l2, .int .i64 i2, .int .i64 e2, .slice a2 n2 c2, .string g2] rfl ?_); intro w2 hr2 hb2 hz2; have HR2 := Lib.hid hr2; have HT1 := Lib.hid (HR1.out.below hb2 HR1.out.lt); have HB2 := Lib.hid (HB1.out.trans (hb2.mono HB1.out.size)); clear hr2 hb2 hz2; have q0 := HT1.out.cellV 0; have q1 := HT1.out.cellV 1; have q2 := HT1.out.cellV 2; have q3 := HT1.out.cellV 3; have q4 := HT1.out.cellV 4; have r0 := HR2.out.cellV 0; have r1 := HR2.out.cellV 1; have r2 := HR2.out.cellV 2; have r3 := HR2.out.cellV 3; have r4 := HR2.out.cellV 4; simp only [List.getElem?_cons_zero, List.getElem?_cons_succ] at q0 q1 q2 q3 q4 r0 r1 r2 r3 r4)
      | (go_at_call 44; refine ((csame_any a1 a2 n1 n2 c1 c2 L1 L2 w2 (H1.out.mono HB2.out) (H2.out.mono HB2.out))).mono ?_; rw [SV.out]; rintro e w3 ⟨rfl, hb3⟩; have HR3 := Lib.hid (HR2.out.below hb3 HR2.out.lt); have HT3 := Lib.hid (HT1.out.below hb3 HT1.out.lt); have HB3 := Lib.hid (HB2.out.trans (hb3.mono HB2.out.size)); clear hb3 q0 q1 q2 q3 q4 r0 r1 r2 r3 r4; have q4 := HT3.out.cellV 4; have r4 := HR3.out.cellV 4; simp only [List.getElem?_cons_zero, List.getElem?_cons_succ] at q4 r4))
    go_ret
    exact ⟨by rw [HRR.out]; rfl, HB2.out⟩
  rw [hb2, Bool.true_and] at hR
  rcases hb3 : (e1 == e2) with _ | _
  · have HRR := Lib.hid (show R = false by rw [← hR, hb3, Bool.false_and])
    have SV := Lib.hid (rfl : sameV L1 L2 = sameV L1 L2)
    clear hR
    go_enter Tryd.func20, Tryd.ntmps20
    go_wp2_with (first
      | ((with_reducible refine box_row (o := ⟨some 2, _, _, _, _, _⟩) rfl _ _ rfl [.int .i64 l1, .int .i64 i1, .int .i64 e1, .slice a1 n1 c1, .string g1] rfl ?_); intro w1 hr1 hb1 hz1; have HR1 := Lib.hid hr1; have HB1 := Lib.hid hb1; clear hr1 hb1 hz1)
      | ((with_reducible refine box_row (o := ⟨some 3, _, _, _, _, _⟩) rfl _ _ rfl [.int .i64 l2, .int .i64 i2, .int .i64 e2, .slice a2 n2 c2, .string g2] rfl ?_); intro w2 hr2 hb2 hz2; have HR2 := Lib.hid hr2; have HT1 := Lib.hid (HR1.out.below hb2 HR1.out.lt); have HB2 := Lib.hid (HB1.out.trans (hb2.mono HB1.out.size)); clear hr2 hb2 hz2; have q0 := HT1.out.cellV 0; have q1 := HT1.out.cellV 1; have q2 := HT1.out.cellV 2; have q3 := HT1.out.cellV 3; have q4 := HT1.out.cellV 4; have r0 := HR2.out.cellV 0; have r1 := HR2.out.cellV 1; have r2 := HR2.out.cellV 2; have r3 := HR2.out.cellV 3; have r4 := HR2.out.cellV 4; simp only [List.getElem?_cons_zero, List.getElem?_cons_succ] at q0 q1 q2 q3 q4 r0 r1 r2 r3 r4)
      | (go_at_call 44; refine ((csame_any a1 a2 n1 n2 c1 c2 L1 L2 w2 (H1.out.mono HB2.out) (H2.out.mono HB2.out))).mono ?_; rw [SV.out]; rintro e w3 ⟨rfl, hb3⟩; have HR3 := Lib.hid (HR2.out.below hb3 HR2.out.lt); have HT3 := Lib.hid (HT1.out.below hb3 HT1.out.lt); have HB3 := Lib.hid (HB2.out.trans (hb3.mono HB2.out.size)); clear hb3 q0 q1 q2 q3 q4 r0 r1 r2 r3 r4; have q4 := HT3.out.cellV 4; have r4 := HR3.out.cellV 4; simp only [List.getElem?_cons_zero, List.getElem?_cons_succ] at q4 r4))
    go_ret
    exact ⟨by rw [HRR.out]; rfl, HB2.out⟩
  rw [hb3, Bool.true_and] at hR
  rcases hsv : sameV L1 L2 with _ | _
  · have SV := Lib.hid hsv
    rw [hsv, Bool.false_and] at hR
    clear hsv
    have HRR := Lib.hid hR
    clear hR
    go_enter Tryd.func20, Tryd.ntmps20
    go_wp2_with (first
      | ((with_reducible refine box_row (o := ⟨some 2, _, _, _, _, _⟩) rfl _ _ rfl [.int .i64 l1, .int .i64 i1, .int .i64 e1, .slice a1 n1 c1, .string g1] rfl ?_); intro w1 hr1 hb1 hz1; have HR1 := Lib.hid hr1; have HB1 := Lib.hid hb1; clear hr1 hb1 hz1)
      | ((with_reducible refine box_row (o := ⟨some 3, _, _, _, _, _⟩) rfl _ _ rfl [.int .i64 l2, .int .i64 i2, .int .i64 e2, .slice a2 n2 c2, .string g2] rfl ?_); intro w2 hr2 hb2 hz2; have HR2 := Lib.hid hr2; have HT1 := Lib.hid (HR1.out.below hb2 HR1.out.lt); have HB2 := Lib.hid (HB1.out.trans (hb2.mono HB1.out.size)); clear hr2 hb2 hz2; have q0 := HT1.out.cellV 0; have q1 := HT1.out.cellV 1; have q2 := HT1.out.cellV 2; have q3 := HT1.out.cellV 3; have q4 := HT1.out.cellV 4; have r0 := HR2.out.cellV 0; have r1 := HR2.out.cellV 1; have r2 := HR2.out.cellV 2; have r3 := HR2.out.cellV 3; have r4 := HR2.out.cellV 4; simp only [List.getElem?_cons_zero, List.getElem?_cons_succ] at q0 q1 q2 q3 q4 r0 r1 r2 r3 r4)
      | (go_at_call 44; refine ((csame_any a1 a2 n1 n2 c1 c2 L1 L2 w2 (H1.out.mono HB2.out) (H2.out.mono HB2.out))).mono ?_; rw [SV.out]; rintro e w3 ⟨rfl, hb3⟩; have HR3 := Lib.hid (HR2.out.below hb3 HR2.out.lt); have HT3 := Lib.hid (HT1.out.below hb3 HT1.out.lt); have HB3 := Lib.hid (HB2.out.trans (hb3.mono HB2.out.size)); clear hb3 q0 q1 q2 q3 q4 r0 r1 r2 r3 r4; have q4 := HT3.out.cellV 4; have r4 := HR3.out.cellV 4; simp only [List.getElem?_cons_zero, List.getElem?_cons_succ] at q4 r4))
    go_ret
    exact ⟨by rw [← HRR.out]; rfl, HB3.out⟩
  · have SV := Lib.hid hsv
    rw [hsv, Bool.true_and] at hR
    clear hsv
    rcases hb4 : (g1.toList == g2.toList) with _ | _
    all_goals
      rw [hb4] at hR
      have HRR := Lib.hid hR
      clear hR
      go_enter Tryd.func20, Tryd.ntmps20
      go_wp2_with (first
        | ((with_reducible refine box_row (o := ⟨some 2, _, _, _, _, _⟩) rfl _ _ rfl [.int .i64 l1, .int .i64 i1, .int .i64 e1, .slice a1 n1 c1, .string g1] rfl ?_); intro w1 hr1 hb1 hz1; have HR1 := Lib.hid hr1; have HB1 := Lib.hid hb1; clear hr1 hb1 hz1)
        | ((with_reducible refine box_row (o := ⟨some 3, _, _, _, _, _⟩) rfl _ _ rfl [.int .i64 l2, .int .i64 i2, .int .i64 e2, .slice a2 n2 c2, .string g2] rfl ?_); intro w2 hr2 hb2 hz2; have HR2 := Lib.hid hr2; have HT1 := Lib.hid (HR1.out.below hb2 HR1.out.lt); have HB2 := Lib.hid (HB1.out.trans (hb2.mono HB1.out.size)); clear hr2 hb2 hz2; have q0 := HT1.out.cellV 0; have q1 := HT1.out.cellV 1; have q2 := HT1.out.cellV 2; have q3 := HT1.out.cellV 3; have q4 := HT1.out.cellV 4; have r0 := HR2.out.cellV 0; have r1 := HR2.out.cellV 1; have r2 := HR2.out.cellV 2; have r3 := HR2.out.cellV 3; have r4 := HR2.out.cellV 4; simp only [List.getElem?_cons_zero, List.getElem?_cons_succ] at q0 q1 q2 q3 q4 r0 r1 r2 r3 r4)
        | (go_at_call 44; refine ((csame_any a1 a2 n1 n2 c1 c2 L1 L2 w2 (H1.out.mono HB2.out) (H2.out.mono HB2.out))).mono ?_; rw [SV.out]; rintro e w3 ⟨rfl, hb3⟩; have HR3 := Lib.hid (HR2.out.below hb3 HR2.out.lt); have HT3 := Lib.hid (HT1.out.below hb3 HT1.out.lt); have HB3 := Lib.hid (HB2.out.trans (hb3.mono HB2.out.size)); clear hb3 q0 q1 q2 q3 q4 r0 r1 r2 r3 r4; have q4 := HT3.out.cellV 4; have r4 := HR3.out.cellV 4; simp only [List.getElem?_cons_zero, List.getElem?_cons_succ] at q4 r4))
      go_ret
      exact ⟨by rw [← HRR.out]; rfl, HB3.out⟩

set_option maxRecDepth 100000 in
set_option maxHeartbeats 1000000 in
theorem utsame_any (l1 i1 e1 : Int) (a1 : Option Addr) (n1 c1 : Nat) (L1 : List Cv) (g1 : ByteArray) (l2 i2 e2 : Int) (a2 : Option Addr) (n2 c2 : Nat) (L2 : List Cv) (g2 : ByteArray) (w : World) (h1 : Cvs w a1 n1 c1 L1) (h2 : Cvs w a2 n2 c2 L2) :
    Calls Tryd.prog 11 #[.agg #[.int .i64 l1, .int .i64 i1, .int .i64 e1, .slice a1 n1 c1, .string g1], .agg #[.int .i64 l2, .int .i64 i2, .int .i64 e2, .slice a2 n2 c2, .string g2]] w fun e w' => e = .returned (.bool (tokSame l1 i1 e1 L1 g1 l2 i2 e2 L2 g2)) ∧ Below w.heap.size w w' := by
  have H1 := Lib.hid h1
  have H2 := Lib.hid h2
  obtain ⟨R, hR⟩ : ∃ R, tokSame l1 i1 e1 L1 g1 l2 i2 e2 L2 g2 = R := ⟨_, rfl⟩
  rw [hR]
  unfold tokSame at hR
  clear h1 h2
  rcases hb1 : (l1 == l2) with _ | _
  · have HRR := Lib.hid (show R = false by rw [← hR, hb1, Bool.false_and])
    have SV := Lib.hid (rfl : sameV L1 L2 = sameV L1 L2)
    clear hR
    go_enter Tryd.func11, Tryd.ntmps11
    go_wp2_with (first
      | ((with_reducible refine box_row (o := ⟨some 2, _, _, _, _, _⟩) rfl _ _ rfl [.int .i64 l1, .int .i64 i1, .int .i64 e1, .slice a1 n1 c1, .string g1] rfl ?_); intro w1 hr1 hb1 hz1; have HR1 := Lib.hid hr1; have HB1 := Lib.hid hb1; clear hr1 hb1 hz1)
      | ((with_reducible refine box_row (o := ⟨some 3, _, _, _, _, _⟩) rfl _ _ rfl [.int .i64 l2, .int .i64 i2, .int .i64 e2, .slice a2 n2 c2, .string g2] rfl ?_); intro w2 hr2 hb2 hz2; have HR2 := Lib.hid hr2; have HT1 := Lib.hid (HR1.out.below hb2 HR1.out.lt); have HB2 := Lib.hid (HB1.out.trans (hb2.mono HB1.out.size)); clear hr2 hb2 hz2; have q0 := HT1.out.cellV 0; have q1 := HT1.out.cellV 1; have q2 := HT1.out.cellV 2; have q3 := HT1.out.cellV 3; have q4 := HT1.out.cellV 4; have r0 := HR2.out.cellV 0; have r1 := HR2.out.cellV 1; have r2 := HR2.out.cellV 2; have r3 := HR2.out.cellV 3; have r4 := HR2.out.cellV 4; simp only [List.getElem?_cons_zero, List.getElem?_cons_succ] at q0 q1 q2 q3 q4 r0 r1 r2 r3 r4)
      | (go_at_call 33; refine ((usame_any a1 a2 n1 n2 c1 c2 L1 L2 w2 (H1.out.mono HB2.out) (H2.out.mono HB2.out))).mono ?_; rw [SV.out]; rintro e w3 ⟨rfl, hb3⟩; have HR3 := Lib.hid (HR2.out.below hb3 HR2.out.lt); have HT3 := Lib.hid (HT1.out.below hb3 HT1.out.lt); have HB3 := Lib.hid (HB2.out.trans (hb3.mono HB2.out.size)); clear hb3 q0 q1 q2 q3 q4 r0 r1 r2 r3 r4; have q4 := HT3.out.cellV 4; have r4 := HR3.out.cellV 4; simp only [List.getElem?_cons_zero, List.getElem?_cons_succ] at q4 r4))
    go_ret
    exact ⟨by rw [HRR.out]; rfl, HB2.out⟩
  rw [hb1, Bool.true_and] at hR
  rcases hb2 : (i1 == i2) with _ | _
  · have HRR := Lib.hid (show R = false by rw [← hR, hb2, Bool.false_and])
    have SV := Lib.hid (rfl : sameV L1 L2 = sameV L1 L2)
    clear hR
    go_enter Tryd.func11, Tryd.ntmps11
    go_wp2_with (first
      | ((with_reducible refine box_row (o := ⟨some 2, _, _, _, _, _⟩) rfl _ _ rfl [.int .i64 l1, .int .i64 i1, .int .i64 e1, .slice a1 n1 c1, .string g1] rfl ?_); intro w1 hr1 hb1 hz1; have HR1 := Lib.hid hr1; have HB1 := Lib.hid hb1; clear hr1 hb1 hz1)
      | ((with_reducible refine box_row (o := ⟨some 3, _, _, _, _, _⟩) rfl _ _ rfl [.int .i64 l2, .int .i64 i2, .int .i64 e2, .slice a2 n2 c2, .string g2] rfl ?_); intro w2 hr2 hb2 hz2; have HR2 := Lib.hid hr2; have HT1 := Lib.hid (HR1.out.below hb2 HR1.out.lt); have HB2 := Lib.hid (HB1.out.trans (hb2.mono HB1.out.size)); clear hr2 hb2 hz2; have q0 := HT1.out.cellV 0; have q1 := HT1.out.cellV 1; have q2 := HT1.out.cellV 2; have q3 := HT1.out.cellV 3; have q4 := HT1.out.cellV 4; have r0 := HR2.out.cellV 0; have r1 := HR2.out.cellV 1; have r2 := HR2.out.cellV 2; have r3 := HR2.out.cellV 3; have r4 := HR2.out.cellV 4; simp only [List.getElem?_cons_zero, List.getElem?_cons_succ] at q0 q1 q2 q3 q4 r0 r1 r2 r3 r4)
      | (go_at_call 33; refine ((usame_any a1 a2 n1 n2 c1 c2 L1 L2 w2 (H1.out.mono HB2.out) (H2.out.mono HB2.out))).mono ?_; rw [SV.out]; rintro e w3 ⟨rfl, hb3⟩; have HR3 := Lib.hid (HR2.out.below hb3 HR2.out.lt); have HT3 := Lib.hid (HT1.out.below hb3 HT1.out.lt); have HB3 := Lib.hid (HB2.out.trans (hb3.mono HB2.out.size)); clear hb3 q0 q1 q2 q3 q4 r0 r1 r2 r3 r4; have q4 := HT3.out.cellV 4; have r4 := HR3.out.cellV 4; simp only [List.getElem?_cons_zero, List.getElem?_cons_succ] at q4 r4))
    go_ret
    exact ⟨by rw [HRR.out]; rfl, HB2.out⟩
  rw [hb2, Bool.true_and] at hR
  rcases hb3 : (e1 == e2) with _ | _
  · have HRR := Lib.hid (show R = false by rw [← hR, hb3, Bool.false_and])
    have SV := Lib.hid (rfl : sameV L1 L2 = sameV L1 L2)
    clear hR
    go_enter Tryd.func11, Tryd.ntmps11
    go_wp2_with (first
      | ((with_reducible refine box_row (o := ⟨some 2, _, _, _, _, _⟩) rfl _ _ rfl [.int .i64 l1, .int .i64 i1, .int .i64 e1, .slice a1 n1 c1, .string g1] rfl ?_); intro w1 hr1 hb1 hz1; have HR1 := Lib.hid hr1; have HB1 := Lib.hid hb1; clear hr1 hb1 hz1)
      | ((with_reducible refine box_row (o := ⟨some 3, _, _, _, _, _⟩) rfl _ _ rfl [.int .i64 l2, .int .i64 i2, .int .i64 e2, .slice a2 n2 c2, .string g2] rfl ?_); intro w2 hr2 hb2 hz2; have HR2 := Lib.hid hr2; have HT1 := Lib.hid (HR1.out.below hb2 HR1.out.lt); have HB2 := Lib.hid (HB1.out.trans (hb2.mono HB1.out.size)); clear hr2 hb2 hz2; have q0 := HT1.out.cellV 0; have q1 := HT1.out.cellV 1; have q2 := HT1.out.cellV 2; have q3 := HT1.out.cellV 3; have q4 := HT1.out.cellV 4; have r0 := HR2.out.cellV 0; have r1 := HR2.out.cellV 1; have r2 := HR2.out.cellV 2; have r3 := HR2.out.cellV 3; have r4 := HR2.out.cellV 4; simp only [List.getElem?_cons_zero, List.getElem?_cons_succ] at q0 q1 q2 q3 q4 r0 r1 r2 r3 r4)
      | (go_at_call 33; refine ((usame_any a1 a2 n1 n2 c1 c2 L1 L2 w2 (H1.out.mono HB2.out) (H2.out.mono HB2.out))).mono ?_; rw [SV.out]; rintro e w3 ⟨rfl, hb3⟩; have HR3 := Lib.hid (HR2.out.below hb3 HR2.out.lt); have HT3 := Lib.hid (HT1.out.below hb3 HT1.out.lt); have HB3 := Lib.hid (HB2.out.trans (hb3.mono HB2.out.size)); clear hb3 q0 q1 q2 q3 q4 r0 r1 r2 r3 r4; have q4 := HT3.out.cellV 4; have r4 := HR3.out.cellV 4; simp only [List.getElem?_cons_zero, List.getElem?_cons_succ] at q4 r4))
    go_ret
    exact ⟨by rw [HRR.out]; rfl, HB2.out⟩
  rw [hb3, Bool.true_and] at hR
  rcases hsv : sameV L1 L2 with _ | _
  · have SV := Lib.hid hsv
    rw [hsv, Bool.false_and] at hR
    clear hsv
    have HRR := Lib.hid hR
    clear hR
    go_enter Tryd.func11, Tryd.ntmps11
    go_wp2_with (first
      | ((with_reducible refine box_row (o := ⟨some 2, _, _, _, _, _⟩) rfl _ _ rfl [.int .i64 l1, .int .i64 i1, .int .i64 e1, .slice a1 n1 c1, .string g1] rfl ?_); intro w1 hr1 hb1 hz1; have HR1 := Lib.hid hr1; have HB1 := Lib.hid hb1; clear hr1 hb1 hz1)
      | ((with_reducible refine box_row (o := ⟨some 3, _, _, _, _, _⟩) rfl _ _ rfl [.int .i64 l2, .int .i64 i2, .int .i64 e2, .slice a2 n2 c2, .string g2] rfl ?_); intro w2 hr2 hb2 hz2; have HR2 := Lib.hid hr2; have HT1 := Lib.hid (HR1.out.below hb2 HR1.out.lt); have HB2 := Lib.hid (HB1.out.trans (hb2.mono HB1.out.size)); clear hr2 hb2 hz2; have q0 := HT1.out.cellV 0; have q1 := HT1.out.cellV 1; have q2 := HT1.out.cellV 2; have q3 := HT1.out.cellV 3; have q4 := HT1.out.cellV 4; have r0 := HR2.out.cellV 0; have r1 := HR2.out.cellV 1; have r2 := HR2.out.cellV 2; have r3 := HR2.out.cellV 3; have r4 := HR2.out.cellV 4; simp only [List.getElem?_cons_zero, List.getElem?_cons_succ] at q0 q1 q2 q3 q4 r0 r1 r2 r3 r4)
      | (go_at_call 33; refine ((usame_any a1 a2 n1 n2 c1 c2 L1 L2 w2 (H1.out.mono HB2.out) (H2.out.mono HB2.out))).mono ?_; rw [SV.out]; rintro e w3 ⟨rfl, hb3⟩; have HR3 := Lib.hid (HR2.out.below hb3 HR2.out.lt); have HT3 := Lib.hid (HT1.out.below hb3 HT1.out.lt); have HB3 := Lib.hid (HB2.out.trans (hb3.mono HB2.out.size)); clear hb3 q0 q1 q2 q3 q4 r0 r1 r2 r3 r4; have q4 := HT3.out.cellV 4; have r4 := HR3.out.cellV 4; simp only [List.getElem?_cons_zero, List.getElem?_cons_succ] at q4 r4))
    go_ret
    exact ⟨by rw [← HRR.out]; rfl, HB3.out⟩
  · have SV := Lib.hid hsv
    rw [hsv, Bool.true_and] at hR
    clear hsv
    rcases hb4 : (g1.toList == g2.toList) with _ | _
    all_goals
      rw [hb4] at hR
      have HRR := Lib.hid hR
      clear hR
      go_enter Tryd.func11, Tryd.ntmps11
      go_wp2_with (first
        | ((with_reducible refine box_row (o := ⟨some 2, _, _, _, _, _⟩) rfl _ _ rfl [.int .i64 l1, .int .i64 i1, .int .i64 e1, .slice a1 n1 c1, .string g1] rfl ?_); intro w1 hr1 hb1 hz1; have HR1 := Lib.hid hr1; have HB1 := Lib.hid hb1; clear hr1 hb1 hz1)
        | ((with_reducible refine box_row (o := ⟨some 3, _, _, _, _, _⟩) rfl _ _ rfl [.int .i64 l2, .int .i64 i2, .int .i64 e2, .slice a2 n2 c2, .string g2] rfl ?_); intro w2 hr2 hb2 hz2; have HR2 := Lib.hid hr2; have HT1 := Lib.hid (HR1.out.below hb2 HR1.out.lt); have HB2 := Lib.hid (HB1.out.trans (hb2.mono HB1.out.size)); clear hr2 hb2 hz2; have q0 := HT1.out.cellV 0; have q1 := HT1.out.cellV 1; have q2 := HT1.out.cellV 2; have q3 := HT1.out.cellV 3; have q4 := HT1.out.cellV 4; have r0 := HR2.out.cellV 0; have r1 := HR2.out.cellV 1; have r2 := HR2.out.cellV 2; have r3 := HR2.out.cellV 3; have r4 := HR2.out.cellV 4; simp only [List.getElem?_cons_zero, List.getElem?_cons_succ] at q0 q1 q2 q3 q4 r0 r1 r2 r3 r4)
        | (go_at_call 33; refine ((usame_any a1 a2 n1 n2 c1 c2 L1 L2 w2 (H1.out.mono HB2.out) (H2.out.mono HB2.out))).mono ?_; rw [SV.out]; rintro e w3 ⟨rfl, hb3⟩; have HR3 := Lib.hid (HR2.out.below hb3 HR2.out.lt); have HT3 := Lib.hid (HT1.out.below hb3 HT1.out.lt); have HB3 := Lib.hid (HB2.out.trans (hb3.mono HB2.out.size)); clear hb3 q0 q1 q2 q3 q4 r0 r1 r2 r3 r4; have q4 := HT3.out.cellV 4; have r4 := HR3.out.cellV 4; simp only [List.getElem?_cons_zero, List.getElem?_cons_succ] at q4 r4))
      go_ret
      exact ⟨by rw [← HRR.out]; rfl, HB3.out⟩

end Go.Proofs.YtlclkikbocbenaaDoor.W
