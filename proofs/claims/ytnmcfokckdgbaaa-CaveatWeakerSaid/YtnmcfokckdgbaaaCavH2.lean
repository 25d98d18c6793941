/- CONTRACTS of layer 6 (caveat): what a caveat allows, the reference's. -/
import Derived.Test.YtnmcfokckdgbaaaCavH
namespace Go.Proofs.Ytnmcfokckdgbaaa.W
open Go.ChangeShapes Go.WideShapes Go.ChangeAt Go.RowKit

set_option maxRecDepth 100000 in
set_option maxHeartbeats 4000000 in
theorem uholds (c : Cv) (d : Dd) (w : World) (hc : c.fit) (hd : d.fit) : Calls Try.prog 29 #[c.val, d.val] w fun e w' => e = .returned (.bool (holdsV c d)) ∧ Below w.heap.size w w' := by
  obtain ⟨r, hr⟩ : ∃ r, holdsV c d = r := ⟨_, rfl⟩
  rw [hr]
  have HC := Lib.hid hc
  obtain ⟨kind, num, name⟩ := c
  obtain ⟨act, time, client, bytes, space, snap⟩ := d
  obtain ⟨⟨k1, k2⟩, ⟨m1, m2⟩, hs⟩ := hc
  obtain ⟨⟨a1, a2⟩, ⟨t1, t2⟩, ⟨c1, c2⟩, ⟨b1, b2⟩, hs1, hs2⟩ := hd
  simp only at k1 k2 m1 m2 a1 a2 t1 t2 c1 c2 b1 b2
  unfold Dd.val
  simp only
  clear hs hs1 hs2
  rcases hok : Cv.ok ⟨kind, num, name⟩ with _ | _
  · have E := Lib.hid (show Cv.err ⟨kind, num, name⟩ = 1 from by unfold Cv.err; rw [hok]; rfl)
    have HR := Lib.hid (show r = false from by rw [← hr]; unfold holdsV; rw [hok]; rfl)
    clear hr hok
    go_enter Try.func29, Try.ntmps29
    go_wp2_with (first
    | (with_reducible refine box_row (o := ⟨some 2, _, _, _, _, _⟩) rfl _ _ rfl [.int .i64 kind, .int .i64 num, .string name] rfl ?_; intro w1 hr1 hb1 hz1; have HR1 := Lib.hid hr1; clear hr1; have HZ1 := Lib.hid hz1; clear hz1; have HB1 := Lib.hid hb1)
    | (with_reducible refine box_row (o := ⟨some 3, _, _, _, _, _⟩) rfl _ _ rfl [.int .i64 act, .int .i64 time, .int .i64 client, .int .i64 bytes, .string space, .string snap] rfl ?_; intro w2 hr2 hb2 hz2; have HR2 := Lib.hid hr2; clear hr2; have HZ2 := Lib.hid hz2; clear hz2; have HRC := Lib.hid (HR1.out.below hb2 (by have := HZ1.out; omega)); have HB2 := Lib.hid (HB1.out.trans (hb2.mono (by have := HZ1.out; omega))); clear hb1 hb2; have f0 := HRC.out.c0; have f1 := HRC.out.c1; have f2 := HRC.out.c2)
    | (go_at_call 24; refine (ucheck ⟨kind, num, name⟩ _ HC.out).mono ?_; rw [E.out]; rintro e w3 ⟨rfl, hb3⟩; have HB3 := Lib.hid (HB2.out.trans (hb3.mono HB2.out.size)); clear f0 f1 f2; have f0 := (HRC.out.below hb3 HRC.out.lt).c0; have f1 := (HRC.out.below hb3 HRC.out.lt).c1; have f2 := (HRC.out.below hb3 HRC.out.lt).c2; have g0 := (HR2.out.below hb3 HR2.out.lt).c0; have g1 := (HR2.out.below hb3 HR2.out.lt).c1; have g2 := (HR2.out.below hb3 HR2.out.lt).c2; have g3 := (HR2.out.below hb3 HR2.out.lt).c3; have g4 := (HR2.out.below hb3 HR2.out.lt).c4; have g5 := (HR2.out.below hb3 HR2.out.lt).c5; clear hb3))
    go_ret
    exact ⟨by rw [HR.out]; rfl, HB3.out⟩
  · have E := Lib.hid (show Cv.err ⟨kind, num, name⟩ = 0 from by unfold Cv.err; rw [hok]; rfl)
    have hr' : r = holdsK kind num name ⟨act, time, client, bytes, space, snap⟩ := by rw [← hr]; unfold holdsV; rw [hok]; rfl
    have hin := ok_in _ hok
    simp only at hin
    clear hr hok
    rcases parts_any kind with ⟨rfl, e1, e2⟩ | ⟨rfl, e1, e2⟩ | ⟨rfl, e1, e2⟩ | ⟨rfl, e1, e2⟩ | ⟨rfl, e1, e2⟩ | ⟨rfl, e1, e2⟩ | ⟨hk, n1, n2, n3, n4, n5, n6, e1, e2⟩
    · clear e1 e2
      have hr2 : r = ((decide (1 ≤ act) && decide (act ≤ 255)) && (bits .and .i64 act num == act)) := by rw [hr']; exact act_eq act num
      by_cases h1 : 1 ≤ act <;> by_cases h2 : act ≤ 255
      all_goals first | (exfalso; omega) | skip
      all_goals
        have HR := Lib.hid (show r = (decide (1 ≤ act ∧ act ≤ 255) && (bits .and .i64 act num == act)) from by rw [hr2]; simp [h1, h2])
        clear hr2 hr'
        go_enter Try.func29, Try.ntmps29
        go_wp2_with (first
    | (with_reducible refine box_row (o := ⟨some 2, _, _, _, _, _⟩) rfl _ _ rfl [.int .i64 1, .int .i64 num, .string name] rfl ?_; intro w1 hr1 hb1 hz1; have HR1 := Lib.hid hr1; clear hr1; have HZ1 := Lib.hid hz1; clear hz1; have HB1 := Lib.hid hb1)
    | (with_reducible refine box_row (o := ⟨some 3, _, _, _, _, _⟩) rfl _ _ rfl [.int .i64 act, .int .i64 time, .int .i64 client, .int .i64 bytes, .string space, .string snap] rfl ?_; intro w2 hr2 hb2 hz2; have HR2 := Lib.hid hr2; clear hr2; have HZ2 := Lib.hid hz2; clear hz2; have HRC := Lib.hid (HR1.out.below hb2 (by have := HZ1.out; omega)); have HB2 := Lib.hid (HB1.out.trans (hb2.mono (by have := HZ1.out; omega))); clear hb1 hb2; have f0 := HRC.out.c0; have f1 := HRC.out.c1; have f2 := HRC.out.c2)
    | (go_at_call 24; refine (ucheck ⟨1, num, name⟩ _ HC.out).mono ?_; rw [E.out]; rintro e w3 ⟨rfl, hb3⟩; have HB3 := Lib.hid (HB2.out.trans (hb3.mono HB2.out.size)); clear f0 f1 f2; have f0 := (HRC.out.below hb3 HRC.out.lt).c0; have f1 := (HRC.out.below hb3 HRC.out.lt).c1; have f2 := (HRC.out.below hb3 HRC.out.lt).c2; have g0 := (HR2.out.below hb3 HR2.out.lt).c0; have g1 := (HR2.out.below hb3 HR2.out.lt).c1; have g2 := (HR2.out.below hb3 HR2.out.lt).c2; have g3 := (HR2.out.below hb3 HR2.out.lt).c3; have g4 := (HR2.out.below hb3 HR2.out.lt).c4; have g5 := (HR2.out.below hb3 HR2.out.lt).c5; clear hb3))
        go_wp2_with fail
        go_ret
        refine ⟨?_, HB3.out⟩
        rw [HR.out]
        simp [h1, h2]
        try (intros; omega)
    · clear e1 e2
      have HR := Lib.hid hr'
      clear hr'
      go_enter Try.func29, Try.ntmps29
      go_wp2_with (first
    | (with_reducible refine box_row (o := ⟨some 2, _, _, _, _, _⟩) rfl _ _ rfl [.int .i64 2, .int .i64 num, .string name] rfl ?_; intro w1 hr1 hb1 hz1; have HR1 := Lib.hid hr1; clear hr1; have HZ1 := Lib.hid hz1; clear hz1; have HB1 := Lib.hid hb1)
    | (with_reducible refine box_row (o := ⟨some 3, _, _, _, _, _⟩) rfl _ _ rfl [.int .i64 act, .int .i64 time, .int .i64 client, .int .i64 bytes, .string space, .string snap] rfl ?_; intro w2 hr2 hb2 hz2; have HR2 := Lib.hid hr2; clear hr2; have HZ2 := Lib.hid hz2; clear hz2; have HRC := Lib.hid (HR1.out.below hb2 (by have := HZ1.out; omega)); have HB2 := Lib.hid (HB1.out.trans (hb2.mono (by have := HZ1.out; omega))); clear hb1 hb2; have f0 := HRC.out.c0; have f1 := HRC.out.c1; have f2 := HRC.out.c2)
    | (go_at_call 24; refine (ucheck ⟨2, num, name⟩ _ HC.out).mono ?_; rw [E.out]; rintro e w3 ⟨rfl, hb3⟩; have HB3 := Lib.hid (HB2.out.trans (hb3.mono HB2.out.size)); clear f0 f1 f2; have f0 := (HRC.out.below hb3 HRC.out.lt).c0; have f1 := (HRC.out.below hb3 HRC.out.lt).c1; have f2 := (HRC.out.below hb3 HRC.out.lt).c2; have g0 := (HR2.out.below hb3 HR2.out.lt).c0; have g1 := (HR2.out.below hb3 HR2.out.lt).c1; have g2 := (HR2.out.below hb3 HR2.out.lt).c2; have g3 := (HR2.out.below hb3 HR2.out.lt).c3; have g4 := (HR2.out.below hb3 HR2.out.lt).c4; have g5 := (HR2.out.below hb3 HR2.out.lt).c5; clear hb3))
      go_wp2_with fail
      go_ret
      exact ⟨by rw [HR.out]; rfl, HB3.out⟩
    · clear e1 e2
      have HR := Lib.hid hr'
      clear hr'
      go_enter Try.func29, Try.ntmps29
      go_wp2_with (first
    | (with_reducible refine box_row (o := ⟨some 2, _, _, _, _, _⟩) rfl _ _ rfl [.int .i64 3, .int .i64 num, .string name] rfl ?_; intro w1 hr1 hb1 hz1; have HR1 := Lib.hid hr1; clear hr1; have HZ1 := Lib.hid hz1; clear hz1; have HB1 := Lib.hid hb1)
    | (with_reducible refine box_row (o := ⟨some 3, _, _, _, _, _⟩) rfl _ _ rfl [.int .i64 act, .int .i64 time, .int .i64 client, .int .i64 bytes, .string space, .string snap] rfl ?_; intro w2 hr2 hb2 hz2; have HR2 := Lib.hid hr2; clear hr2; have HZ2 := Lib.hid hz2; clear hz2; have HRC := Lib.hid (HR1.out.below hb2 (by have := HZ1.out; omega)); have HB2 := Lib.hid (HB1.out.trans (hb2.mono (by have := HZ1.out; omega))); clear hb1 hb2; have f0 := HRC.out.c0; have f1 := HRC.out.c1; have f2 := HRC.out.c2)
    | (go_at_call 24; refine (ucheck ⟨3, num, name⟩ _ HC.out).mono ?_; rw [E.out]; rintro e w3 ⟨rfl, hb3⟩; have HB3 := Lib.hid (HB2.out.trans (hb3.mono HB2.out.size)); clear f0 f1 f2; have f0 := (HRC.out.below hb3 HRC.out.lt).c0; have f1 := (HRC.out.below hb3 HRC.out.lt).c1; have f2 := (HRC.out.below hb3 HRC.out.lt).c2; have g0 := (HR2.out.below hb3 HR2.out.lt).c0; have g1 := (HR2.out.below hb3 HR2.out.lt).c1; have g2 := (HR2.out.below hb3 HR2.out.lt).c2; have g3 := (HR2.out.below hb3 HR2.out.lt).c3; have g4 := (HR2.out.below hb3 HR2.out.lt).c4; have g5 := (HR2.out.below hb3 HR2.out.lt).c5; clear hb3))
      go_wp2_with fail
      go_ret
      exact ⟨by rw [HR.out]; rfl, HB3.out⟩
    · clear e1 e2
      have HR := Lib.hid hr'
      clear hr'
      go_enter Try.func29, Try.ntmps29
      go_wp2_with (first
    | (with_reducible refine box_row (o := ⟨some 2, _, _, _, _, _⟩) rfl _ _ rfl [.int .i64 4, .int .i64 num, .string name] rfl ?_; intro w1 hr1 hb1 hz1; have HR1 := Lib.hid hr1; clear hr1; have HZ1 := Lib.hid hz1; clear hz1; have HB1 := Lib.hid hb1)
    | (with_reducible refine box_row (o := ⟨some 3, _, _, _, _, _⟩) rfl _ _ rfl [.int .i64 act, .int .i64 time, .int .i64 client, .int .i64 bytes, .string space, .string snap] rfl ?_; intro w2 hr2 hb2 hz2; have HR2 := Lib.hid hr2; clear hr2; have HZ2 := Lib.hid hz2; clear hz2; have HRC := Lib.hid (HR1.out.below hb2 (by have := HZ1.out; omega)); have HB2 := Lib.hid (HB1.out.trans (hb2.mono (by have := HZ1.out; omega))); clear hb1 hb2; have f0 := HRC.out.c0; have f1 := HRC.out.c1; have f2 := HRC.out.c2)
    | (go_at_call 24; refine (ucheck ⟨4, num, name⟩ _ HC.out).mono ?_; rw [E.out]; rintro e w3 ⟨rfl, hb3⟩; have HB3 := Lib.hid (HB2.out.trans (hb3.mono HB2.out.size)); clear f0 f1 f2; have f0 := (HRC.out.below hb3 HRC.out.lt).c0; have f1 := (HRC.out.below hb3 HRC.out.lt).c1; have f2 := (HRC.out.below hb3 HRC.out.lt).c2; have g0 := (HR2.out.below hb3 HR2.out.lt).c0; have g1 := (HR2.out.below hb3 HR2.out.lt).c1; have g2 := (HR2.out.below hb3 HR2.out.lt).c2; have g3 := (HR2.out.below hb3 HR2.out.lt).c3; have g4 := (HR2.out.below hb3 HR2.out.lt).c4; have g5 := (HR2.out.below hb3 HR2.out.lt).c5; clear hb3))
      go_wp2_with fail
      go_ret
      exact ⟨by rw [HR.out]; rfl, HB3.out⟩
    · clear e1 e2
      have HR := Lib.hid hr'
      clear hr'
      go_enter Try.func29, Try.ntmps29
      go_wp2_with (first
    | (with_reducible refine box_row (o := ⟨some 2, _, _, _, _, _⟩) rfl _ _ rfl [.int .i64 5, .int .i64 num, .string name] rfl ?_; intro w1 hr1 hb1 hz1; have HR1 := Lib.hid hr1; clear hr1; have HZ1 := Lib.hid hz1; clear hz1; have HB1 := Lib.hid hb1)
    | (with_reducible refine box_row (o := ⟨some 3, _, _, _, _, _⟩) rfl _ _ rfl [.int .i64 act, .int .i64 time, .int .i64 client, .int .i64 bytes, .string space, .string snap] rfl ?_; intro w2 hr2 hb2 hz2; have HR2 := Lib.hid hr2; clear hr2; have HZ2 := Lib.hid hz2; clear hz2; have HRC := Lib.hid (HR1.out.below hb2 (by have := HZ1.out; omega)); have HB2 := Lib.hid (HB1.out.trans (hb2.mono (by have := HZ1.out; omega))); clear hb1 hb2; have f0 := HRC.out.c0; have f1 := HRC.out.c1; have f2 := HRC.out.c2)
    | (go_at_call 24; refine (ucheck ⟨5, num, name⟩ _ HC.out).mono ?_; rw [E.out]; rintro e w3 ⟨rfl, hb3⟩; have HB3 := Lib.hid (HB2.out.trans (hb3.mono HB2.out.size)); clear f0 f1 f2; have f0 := (HRC.out.below hb3 HRC.out.lt).c0; have f1 := (HRC.out.below hb3 HRC.out.lt).c1; have f2 := (HRC.out.below hb3 HRC.out.lt).c2; have g0 := (HR2.out.below hb3 HR2.out.lt).c0; have g1 := (HR2.out.below hb3 HR2.out.lt).c1; have g2 := (HR2.out.below hb3 HR2.out.lt).c2; have g3 := (HR2.out.below hb3 HR2.out.lt).c3; have g4 := (HR2.out.below hb3 HR2.out.lt).c4; have g5 := (HR2.out.below hb3 HR2.out.lt).c5; clear hb3))
      go_wp2_with fail
      go_ret
      exact ⟨by rw [HR.out]; rfl, HB3.out⟩
    · clear e1 e2
      have HR := Lib.hid hr'
      clear hr'
      go_enter Try.func29, Try.ntmps29
      go_wp2_with (first
    | (with_reducible refine box_row (o := ⟨some 2, _, _, _, _, _⟩) rfl _ _ rfl [.int .i64 6, .int .i64 num, .string name] rfl ?_; intro w1 hr1 hb1 hz1; have HR1 := Lib.hid hr1; clear hr1; have HZ1 := Lib.hid hz1; clear hz1; have HB1 := Lib.hid hb1)
    | (with_reducible refine box_row (o := ⟨some 3, _, _, _, _, _⟩) rfl _ _ rfl [.int .i64 act, .int .i64 time, .int .i64 client, .int .i64 bytes, .string space, .string snap] rfl ?_; intro w2 hr2 hb2 hz2; have HR2 := Lib.hid hr2; clear hr2; have HZ2 := Lib.hid hz2; clear hz2; have HRC := Lib.hid (HR1.out.below hb2 (by have := HZ1.out; omega)); have HB2 := Lib.hid (HB1.out.trans (hb2.mono (by have := HZ1.out; omega))); clear hb1 hb2; have f0 := HRC.out.c0; have f1 := HRC.out.c1; have f2 := HRC.out.c2)
    | (go_at_call 24; refine (ucheck ⟨6, num, name⟩ _ HC.out).mono ?_; rw [E.out]; rintro e w3 ⟨rfl, hb3⟩; have HB3 := Lib.hid (HB2.out.trans (hb3.mono HB2.out.size)); clear f0 f1 f2; have f0 := (HRC.out.below hb3 HRC.out.lt).c0; have f1 := (HRC.out.below hb3 HRC.out.lt).c1; have f2 := (HRC.out.below hb3 HRC.out.lt).c2; have g0 := (HR2.out.below hb3 HR2.out.lt).c0; have g1 := (HR2.out.below hb3 HR2.out.lt).c1; have g2 := (HR2.out.below hb3 HR2.out.lt).c2; have g3 := (HR2.out.below hb3 HR2.out.lt).c3; have g4 := (HR2.out.below hb3 HR2.out.lt).c4; have g5 := (HR2.out.below hb3 HR2.out.lt).c5; clear hb3))
      go_wp2_with fail
      go_ret
      exact ⟨by rw [HR.out]; rfl, HB3.out⟩
    · omega

end Go.Proofs.Ytnmcfokckdgbaaa.W
