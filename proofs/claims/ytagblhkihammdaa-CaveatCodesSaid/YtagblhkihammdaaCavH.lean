/- CONTRACTS of layer 6 (caveat): what a caveat allows. -/
import Derived.Test.YtagblhkihammdaaCavW4
import Derived.Test.YtagblhkihammdaaArr
import Derived.Test.YtagblhkihammdaaBitsP
namespace Go.Proofs.Ytagblhkihammdaa.W
open Go.ChangeShapes Go.WideShapes Go.ChangeAt Go.RowKit

def Dd.cells (d : Dd) : List Value := [.int .i64 d.action, .int .i64 d.time, .int .i64 d.client, .int .i64 d.bytes, .string d.space, .string d.snap]
def actV (a n : Int) : Bool := (decide (1 ≤ a) && decide (a ≤ 255)) && (bits .andNot .i64 a n == 0)
def holdsK (k n : Int) (s : ByteArray) (d : Dd) : Bool :=
  if k = 1 then actV d.action n else if k = 5 then d.client == n else if k = 2 then d.space.toList == s.toList else if k = 3 then d.snap.toList == s.toList else if k = 4 then decide (d.time ≤ n) else if k = 6 then decide (d.bytes ≤ n) else false
def holdsV (c : Cv) (d : Dd) : Bool := c.ok && holdsK c.kind c.num c.name d

theorem cv_size : (Try.prog.info? 23).map (·.size) = some 3 := by kernel_rfl
theorem dd_size : (Try.prog.info? 48).map (·.size) = some 6 := by kernel_rfl

theorem Row.c0 {w : World} {g : Nat} {t : TypeId} {a : Value} {L : List Value} (h : Row w g t (a :: L)) : w.cell? ⟨g, 0, none⟩ = some a := by rw [h.cellV]; rfl
theorem Row.c1 {w : World} {g : Nat} {t : TypeId} {a b : Value} {L : List Value} (h : Row w g t (a :: b :: L)) : w.cell? ⟨g, 1, none⟩ = some b := by rw [h.cellV]; rfl
theorem Row.c2 {w : World} {g : Nat} {t : TypeId} {a b c : Value} {L : List Value} (h : Row w g t (a :: b :: c :: L)) : w.cell? ⟨g, 2, none⟩ = some c := by rw [h.cellV]; rfl
theorem Row.c3 {w : World} {g : Nat} {t : TypeId} {a b c d : Value} {L : List Value} (h : Row w g t (a :: b :: c :: d :: L)) : w.cell? ⟨g, 3, none⟩ = some d := by rw [h.cellV]; rfl
theorem Row.c4 {w : World} {g : Nat} {t : TypeId} {a b c d e : Value} {L : List Value} (h : Row w g t (a :: b :: c :: d :: e :: L)) : w.cell? ⟨g, 4, none⟩ = some e := by rw [h.cellV]; rfl
theorem Row.c5 {w : World} {g : Nat} {t : TypeId} {a b c d e f : Value} {L : List Value} (h : Row w g t (a :: b :: c :: d :: e :: f :: L)) : w.cell? ⟨g, 5, none⟩ = some f := by rw [h.cellV]; rfl

theorem ok_in (c : Cv) (h : c.ok = true) : 1 ≤ c.kind ∧ c.kind ≤ 6 := by
  refine parts_in _ fun h0 => ?_
  unfold Cv.ok at h
  rw [h0] at h
  exact absurd h (by simp)
theorem T_ext {x y : Int} (x1 : -9223372036854775808 ≤ x) (x2 : x ≤ 9223372036854775807) (y1 : -9223372036854775808 ≤ y) (y2 : y ≤ 9223372036854775807) (h : ∀ k, B.T x k = B.T y k) : x = y := by
  have : B.U x = B.U y := Nat.eq_of_testBit_eq h
  rw [← B.wrapU x x1 x2, this, B.wrapU y y1 y2]
theorem act_eq (a n : Int) : ((decide (1 ≤ a) && decide (a ≤ 255)) && (bits .andNot .i64 a n == 0)) = ((decide (1 ≤ a) && decide (a ≤ 255)) && (bits .and .i64 a n == a)) := by
  by_cases h : 1 ≤ a ∧ a ≤ 255
  · have r1 := B.wrap_rng ((B.U a &&& B.U n : Nat) : Int)
    have r2 := B.wrap_rng ((B.U a &&& (18446744073709551615 - B.U n) : Nat) : Int)
    rw [← B.and_i64] at r1
    rw [← B.andNot_i64] at r2
    have t0 : ∀ k, B.T 0 k = false := fun k => by unfold B.T; rw [show B.U 0 = 0 from rfl, Nat.zero_testBit]
    congr 1
    rw [Bool.eq_iff_iff, beq_iff_eq, beq_iff_eq]
    constructor
    · intro h1
      refine T_ext r1.1 r1.2 (by omega) (by omega) fun k => ?_
      have h2 := B.T_andNot a n k
      rw [h1, t0] at h2
      rw [B.T_and]
      revert h2
      generalize B.T a k = p
      generalize B.T n k = q
      cases p <;> cases q <;> decide
    · intro h1
      refine T_ext r2.1 r2.2 (by omega) (by omega) fun k => ?_
      have h2 := B.T_and a n k
      rw [h1] at h2
      rw [B.T_andNot, t0]
      revert h2
      generalize B.T a k = p
      generalize B.T n k = q
      cases p <;> cases q <;> decide
  · have : (decide (1 ≤ a) && decide (a ≤ 255)) = false := by simp; omega
    rw [this, Bool.false_and, Bool.false_and]

set_option maxRecDepth 100000 in
set_option maxHeartbeats 4000000 in
theorem cholds (c : Cv) (d : Dd) (w : World) (hc : c.fit) (hd : d.fit) : Calls Try.prog 25 #[c.val, d.val] w fun e w' => e = .returned (.bool (holdsV c d)) ∧ Below w.heap.size w w' := by
  obtain ⟨r, hr⟩ : ∃ r, holdsV c d = r := ⟨_, rfl⟩
  rw [hr]
  have HC := Lib.hid hc
  obtain ⟨kind, num, name⟩ := c
  obtain ⟨act, time, client, bytes, space, snap⟩ := d
  obtain ⟨⟨k1, k2⟩, ⟨m1, m2⟩, hs⟩ := hc
  obtain ⟨⟨a1, a2⟩, ⟨t1, t2⟩, ⟨c1, c2⟩, ⟨b1, b2⟩, hs1, hs2⟩ := hd
  simp only at k1 k2 m1 m2 a1 a2 t1 t2 c1 c2 b1 b2
  unfold Dd.val
  simp only
  clear hs hs1 hs2
  rcases hok : Cv.ok ⟨kind, num, name⟩ with _ | _
  · have E := Lib.hid (show Cv.err ⟨kind, num, name⟩ = 1 from by unfold Cv.err; rw [hok]; rfl)
    have HR := Lib.hid (show r = false from by rw [← hr]; unfold holdsV; rw [hok]; rfl)
    clear hr hok
    go_enter Try.func25, Try.ntmps25
    go_wp2_with (first
    | (with_reducible refine box_row (o := ⟨some 2, _, _, _, _, _⟩) rfl _ _ rfl [.int .i64 kind, .int .i64 num, .string name] rfl ?_; intro w1 hr1 hb1 hz1; have HR1 := Lib.hid hr1; clear hr1; have HZ1 := Lib.hid hz1; clear hz1; have HB1 := Lib.hid hb1)
    | (with_reducible refine box_row (o := ⟨some 3, _, _, _, _, _⟩) rfl _ _ rfl [.int .i64 act, .int .i64 time, .int .i64 client, .int .i64 bytes, .string space, .string snap] rfl ?_; intro w2 hr2 hb2 hz2; have HR2 := Lib.hid hr2; clear hr2; have HZ2 := Lib.hid hz2; clear hz2; have HRC := Lib.hid (HR1.out.below hb2 (by have := HZ1.out; omega)); have HB2 := Lib.hid (HB1.out.trans (hb2.mono (by have := HZ1.out; omega))); clear hb1 hb2; have f0 := HRC.out.c0; have f1 := HRC.out.c1; have f2 := HRC.out.c2)
    | (go_at_call 23; refine (ccheck ⟨kind, num, name⟩ _ HC.out).mono ?_; rw [E.out]; rintro e w3 ⟨rfl, hb3⟩; have HB3 := Lib.hid (HB2.out.trans (hb3.mono HB2.out.size)); clear f0 f1 f2; have f0 := (HRC.out.below hb3 HRC.out.lt).c0; have f1 := (HRC.out.below hb3 HRC.out.lt).c1; have f2 := (HRC.out.below hb3 HRC.out.lt).c2; have g0 := (HR2.out.below hb3 HR2.out.lt).c0; have g1 := (HR2.out.below hb3 HR2.out.lt).c1; have g2 := (HR2.out.below hb3 HR2.out.lt).c2; have g3 := (HR2.out.below hb3 HR2.out.lt).c3; have g4 := (HR2.out.below hb3 HR2.out.lt).c4; have g5 := (HR2.out.below hb3 HR2.out.lt).c5; clear hb3))
    go_ret
    exact ⟨by rw [HR.out]; rfl, HB3.out⟩
  · have E := Lib.hid (show Cv.err ⟨kind, num, name⟩ = 0 from by unfold Cv.err; rw [hok]; rfl)
    have hr' : r = holdsK kind num name ⟨act, time, client, bytes, space, snap⟩ := by rw [← hr]; unfold holdsV; rw [hok]; rfl
    have hin := ok_in _ hok
    simp only at hin
    clear hr hok
    rcases parts_any kind with ⟨rfl, e1, e2⟩ | ⟨rfl, e1, e2⟩ | ⟨rfl, e1, e2⟩ | ⟨rfl, e1, e2⟩ | ⟨rfl, e1, e2⟩ | ⟨rfl, e1, e2⟩ | ⟨hk, n1, n2, n3, n4, n5, n6, e1, e2⟩
    · clear e1 e2
      have hr2 : r = ((decide (1 ≤ act) && decide (act ≤ 255)) && (bits .andNot .i64 act num == 0)) := hr'
      rcases hb : (decide ((1 : Int) ≤ act) && decide (act ≤ 255)) with _ | _
      all_goals
        rw [hb] at hr2
        have HB := Lib.hid hb
        have HR := Lib.hid hr2
        clear hb hr2 hr'
        go_enter Try.func25, Try.ntmps25
        go_wp2_with (first
    | (with_reducible refine box_row (o := ⟨some 2, _, _, _, _, _⟩) rfl _ _ rfl [.int .i64 1, .int .i64 num, .string name] rfl ?_; intro w1 hr1 hb1 hz1; have HR1 := Lib.hid hr1; clear hr1; have HZ1 := Lib.hid hz1; clear hz1; have HB1 := Lib.hid hb1)
    | (with_reducible refine box_row (o := ⟨some 3, _, _, _, _, _⟩) rfl _ _ rfl [.int .i64 act, .int .i64 time, .int .i64 client, .int .i64 bytes, .string space, .string snap] rfl ?_; intro w2 hr2 hb2 hz2; have HR2 := Lib.hid hr2; clear hr2; have HZ2 := Lib.hid hz2; clear hz2; have HRC := Lib.hid (HR1.out.below hb2 (by have := HZ1.out; omega)); have HB2 := Lib.hid (HB1.out.trans (hb2.mono (by have := HZ1.out; omega))); clear hb1 hb2; have f0 := HRC.out.c0; have f1 := HRC.out.c1; have f2 := HRC.out.c2)
    | (go_at_call 23; refine (ccheck ⟨1, num, name⟩ _ HC.out).mono ?_; rw [E.out]; rintro e w3 ⟨rfl, hb3⟩; have HB3 := Lib.hid (HB2.out.trans (hb3.mono HB2.out.size)); clear f0 f1 f2; have f0 := (HRC.out.below hb3 HRC.out.lt).c0; have f1 := (HRC.out.below hb3 HRC.out.lt).c1; have f2 := (HRC.out.below hb3 HRC.out.lt).c2; have g0 := (HR2.out.below hb3 HR2.out.lt).c0; have g1 := (HR2.out.below hb3 HR2.out.lt).c1; have g2 := (HR2.out.below hb3 HR2.out.lt).c2; have g3 := (HR2.out.below hb3 HR2.out.lt).c3; have g4 := (HR2.out.below hb3 HR2.out.lt).c4; have g5 := (HR2.out.below hb3 HR2.out.lt).c5; clear hb3))
        go_quiet (fail)
        go_wp2_with (go_at_call 48; refine (cwithin_b _ _ _ _ _ HB.out).mono ?_; rintro e w' ⟨rfl, rfl⟩)
        go_ret
        exact ⟨by rw [HR.out]; first | rfl | simp, below_drewN HB3.out _⟩
    · clear e1 e2
      have HR := Lib.hid hr'
      clear hr'
      go_enter Try.func25, Try.ntmps25
      go_wp2_with (first
    | (with_reducible refine box_row (o := ⟨some 2, _, _, _, _, _⟩) rfl _ _ rfl [.int .i64 2, .int .i64 num, .string name] rfl ?_; intro w1 hr1 hb1 hz1; have HR1 := Lib.hid hr1; clear hr1; have HZ1 := Lib.hid hz1; clear hz1; have HB1 := Lib.hid hb1)
    | (with_reducible refine box_row (o := ⟨some 3, _, _, _, _, _⟩) rfl _ _ rfl [.int .i64 act, .int .i64 time, .int .i64 client, .int .i64 bytes, .string space, .string snap] rfl ?_; intro w2 hr2 hb2 hz2; have HR2 := Lib.hid hr2; clear hr2; have HZ2 := Lib.hid hz2; clear hz2; have HRC := Lib.hid (HR1.out.below hb2 (by have := HZ1.out; omega)); have HB2 := Lib.hid (HB1.out.trans (hb2.mono (by have := HZ1.out; omega))); clear hb1 hb2; have f0 := HRC.out.c0; have f1 := HRC.out.c1; have f2 := HRC.out.c2)
    | (go_at_call 23; refine (ccheck ⟨2, num, name⟩ _ HC.out).mono ?_; rw [E.out]; rintro e w3 ⟨rfl, hb3⟩; have HB3 := Lib.hid (HB2.out.trans (hb3.mono HB2.out.size)); clear f0 f1 f2; have f0 := (HRC.out.below hb3 HRC.out.lt).c0; have f1 := (HRC.out.below hb3 HRC.out.lt).c1; have f2 := (HRC.out.below hb3 HRC.out.lt).c2; have g0 := (HR2.out.below hb3 HR2.out.lt).c0; have g1 := (HR2.out.below hb3 HR2.out.lt).c1; have g2 := (HR2.out.below hb3 HR2.out.lt).c2; have g3 := (HR2.out.below hb3 HR2.out.lt).c3; have g4 := (HR2.out.below hb3 HR2.out.lt).c4; have g5 := (HR2.out.below hb3 HR2.out.lt).c5; clear hb3))
      go_quiet (fail)
      go_wp2_with fail
      go_ret
      exact ⟨by rw [HR.out]; rfl, below_drewN HB3.out _⟩
    · clear e1 e2
      have HR := Lib.hid hr'
      clear hr'
      go_enter Try.func25, Try.ntmps25
      go_wp2_with (first
    | (with_reducible refine box_row (o := ⟨some 2, _, _, _, _, _⟩) rfl _ _ rfl [.int .i64 3, .int .i64 num, .string name] rfl ?_; intro w1 hr1 hb1 hz1; have HR1 := Lib.hid hr1; clear hr1; have HZ1 := Lib.hid hz1; clear hz1; have HB1 := Lib.hid hb1)
    | (with_reducible refine box_row (o := ⟨some 3, _, _, _, _, _⟩) rfl _ _ rfl [.int .i64 act, .int .i64 time, .int .i64 client, .int .i64 bytes, .string space, .string snap] rfl ?_; intro w2 hr2 hb2 hz2; have HR2 := Lib.hid hr2; clear hr2; have HZ2 := Lib.hid hz2; clear hz2; have HRC := Lib.hid (HR1.out.below hb2 (by have := HZ1.out; omega)); have HB2 := Lib.hid (HB1.out.trans (hb2.mono (by have := HZ1.out; omega))); clear hb1 hb2; have f0 := HRC.out.c0; have f1 := HRC.out.c1; have f2 := HRC.out.c2)
    | (go_at_call 23; refine (ccheck ⟨3, num, name⟩ _ HC.out).mono ?_; rw [E.out]; rintro e w3 ⟨rfl, hb3⟩; have HB3 := Lib.hid (HB2.out.trans (hb3.mono HB2.out.size)); clear f0 f1 f2; have f0 := (HRC.out.below hb3 HRC.out.lt).c0; have f1 := (HRC.out.below hb3 HRC.out.lt).c1; have f2 := (HRC.out.below hb3 HRC.out.lt).c2; have g0 := (HR2.out.below hb3 HR2.out.lt).c0; have g1 := (HR2.out.below hb3 HR2.out.lt).c1; have g2 := (HR2.out.below hb3 HR2.out.lt).c2; have g3 := (HR2.out.below hb3 HR2.out.lt).c3; have g4 := (HR2.out.below hb3 HR2.out.lt).c4; have g5 := (HR2.out.below hb3 HR2.out.lt).c5; clear hb3))
      go_quiet (fail)
      go_wp2_with fail
      go_ret
      exact ⟨by rw [HR.out]; rfl, below_drewN HB3.out _⟩
    · clear e1 e2
      have HR := Lib.hid hr'
      clear hr'
      go_enter Try.func25, Try.ntmps25
      go_wp2_with (first
    | (with_reducible refine box_row (o := ⟨some 2, _, _, _, _, _⟩) rfl _ _ rfl [.int .i64 4, .int .i64 num, .string name] rfl ?_; intro w1 hr1 hb1 hz1; have HR1 := Lib.hid hr1; clear hr1; have HZ1 := Lib.hid hz1; clear hz1; have HB1 := Lib.hid hb1)
    | (with_reducible refine box_row (o := ⟨some 3, _, _, _, _, _⟩) rfl _ _ rfl [.int .i64 act, .int .i64 time, .int .i64 client, .int .i64 bytes, .string space, .string snap] rfl ?_; intro w2 hr2 hb2 hz2; have HR2 := Lib.hid hr2; clear hr2; have HZ2 := Lib.hid hz2; clear hz2; have HRC := Lib.hid (HR1.out.below hb2 (by have := HZ1.out; omega)); have HB2 := Lib.hid (HB1.out.trans (hb2.mono (by have := HZ1.out; omega))); clear hb1 hb2; have f0 := HRC.out.c0; have f1 := HRC.out.c1; have f2 := HRC.out.c2)
    | (go_at_call 23; refine (ccheck ⟨4, num, name⟩ _ HC.out).mono ?_; rw [E.out]; rintro e w3 ⟨rfl, hb3⟩; have HB3 := Lib.hid (HB2.out.trans (hb3.mono HB2.out.size)); clear f0 f1 f2; have f0 := (HRC.out.below hb3 HRC.out.lt).c0; have f1 := (HRC.out.below hb3 HRC.out.lt).c1; have f2 := (HRC.out.below hb3 HRC.out.lt).c2; have g0 := (HR2.out.below hb3 HR2.out.lt).c0; have g1 := (HR2.out.below hb3 HR2.out.lt).c1; have g2 := (HR2.out.below hb3 HR2.out.lt).c2; have g3 := (HR2.out.below hb3 HR2.out.lt).c3; have g4 := (HR2.out.below hb3 HR2.out.lt).c4; have g5 := (HR2.out.below hb3 HR2.out.lt).c5; clear hb3))
      go_quiet (fail)
      go_wp2_with fail
      go_ret
      exact ⟨by rw [HR.out]; rfl, below_drewN HB3.out _⟩
    · clear e1 e2
      have HR := Lib.hid hr'
      clear hr'
      go_enter Try.func25, Try.ntmps25
      go_wp2_with (first
    | (with_reducible refine box_row (o := ⟨some 2, _, _, _, _, _⟩) rfl _ _ rfl [.int .i64 5, .int .i64 num, .string name] rfl ?_; intro w1 hr1 hb1 hz1; have HR1 := Lib.hid hr1; clear hr1; have HZ1 := Lib.hid hz1; clear hz1; have HB1 := Lib.hid hb1)
    | (with_reducible refine box_row (o := ⟨some 3, _, _, _, _, _⟩) rfl _ _ rfl [.int .i64 act, .int .i64 time, .int .i64 client, .int .i64 bytes, .string space, .string snap] rfl ?_; intro w2 hr2 hb2 hz2; have HR2 := Lib.hid hr2; clear hr2; have HZ2 := Lib.hid hz2; clear hz2; have HRC := Lib.hid (HR1.out.below hb2 (by have := HZ1.out; omega)); have HB2 := Lib.hid (HB1.out.trans (hb2.mono (by have := HZ1.out; omega))); clear hb1 hb2; have f0 := HRC.out.c0; have f1 := HRC.out.c1; have f2 := HRC.out.c2)
    | (go_at_call 23; refine (ccheck ⟨5, num, name⟩ _ HC.out).mono ?_; rw [E.out]; rintro e w3 ⟨rfl, hb3⟩; have HB3 := Lib.hid (HB2.out.trans (hb3.mono HB2.out.size)); clear f0 f1 f2; have f0 := (HRC.out.below hb3 HRC.out.lt).c0; have f1 := (HRC.out.below hb3 HRC.out.lt).c1; have f2 := (HRC.out.below hb3 HRC.out.lt).c2; have g0 := (HR2.out.below hb3 HR2.out.lt).c0; have g1 := (HR2.out.below hb3 HR2.out.lt).c1; have g2 := (HR2.out.below hb3 HR2.out.lt).c2; have g3 := (HR2.out.below hb3 HR2.out.lt).c3; have g4 := (HR2.out.below hb3 HR2.out.lt).c4; have g5 := (HR2.out.below hb3 HR2.out.lt).c5; clear hb3))
      go_quiet (fail)
      go_wp2_with fail
      go_ret
      exact ⟨by rw [HR.out]; rfl, below_drewN HB3.out _⟩
    · clear e1 e2
      have HR := Lib.hid hr'
      clear hr'
      go_enter Try.func25, Try.ntmps25
      go_wp2_with (first
    | (with_reducible refine box_row (o := ⟨some 2, _, _, _, _, _⟩) rfl _ _ rfl [.int .i64 6, .int .i64 num, .string name] rfl ?_; intro w1 hr1 hb1 hz1; have HR1 := Lib.hid hr1; clear hr1; have HZ1 := Lib.hid hz1; clear hz1; have HB1 := Lib.hid hb1)
    | (with_reducible refine box_row (o := ⟨some 3, _, _, _, _, _⟩) rfl _ _ rfl [.int .i64 act, .int .i64 time, .int .i64 client, .int .i64 bytes, .string space, .string snap] rfl ?_; intro w2 hr2 hb2 hz2; have HR2 := Lib.hid hr2; clear hr2; have HZ2 := Lib.hid hz2; clear hz2; have HRC := Lib.hid (HR1.out.below hb2 (by have := HZ1.out; omega)); have HB2 := Lib.hid (HB1.out.trans (hb2.mono (by have := HZ1.out; omega))); clear hb1 hb2; have f0 := HRC.out.c0; have f1 := HRC.out.c1; have f2 := HRC.out.c2)
    | (go_at_call 23; refine (ccheck ⟨6, num, name⟩ _ HC.out).mono ?_; rw [E.out]; rintro e w3 ⟨rfl, hb3⟩; have HB3 := Lib.hid (HB2.out.trans (hb3.mono HB2.out.size)); clear f0 f1 f2; have f0 := (HRC.out.below hb3 HRC.out.lt).c0; have f1 := (HRC.out.below hb3 HRC.out.lt).c1; have f2 := (HRC.out.below hb3 HRC.out.lt).c2; have g0 := (HR2.out.below hb3 HR2.out.lt).c0; have g1 := (HR2.out.below hb3 HR2.out.lt).c1; have g2 := (HR2.out.below hb3 HR2.out.lt).c2; have g3 := (HR2.out.below hb3 HR2.out.lt).c3; have g4 := (HR2.out.below hb3 HR2.out.lt).c4; have g5 := (HR2.out.below hb3 HR2.out.lt).c5; clear hb3))
      go_quiet (fail)
      go_wp2_with fail
      go_ret
      exact ⟨by rw [HR.out]; rfl, below_drewN HB3.out _⟩
    · omega

end Go.Proofs.Ytagblhkihammdaa.W
