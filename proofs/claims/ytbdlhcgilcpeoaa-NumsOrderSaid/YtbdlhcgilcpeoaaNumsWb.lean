/- CONTRACTS of layer 1 (nums), the second part: sets of the references; products. -/
import Derived.Test.YtbdlhcgilcpeoaaNumsW
namespace Go.Proofs.Ytbdlhcgilcpeoaa.W
open Go.ChangeShapes Go.WideShapes Go.ChangeAt Go.RowKit
open Go.Proofs.Ytbdlhcgilcpeoaa.B

theorem pow_u64 (i : Int) (h0 : 0 ≤ i) (h1 : i ≤ 61) : IntKind.u64.wrap (2 ^ i.toNat) = 2 ^ i.toNat := by
  have h := pow_in i h0 h1
  have h3 : (0 : Int) ≤ 2 ^ i.toNat := Int.le_of_lt (Int.pow_pos (by decide))
  rw [IntKind.wrap_u64]
  unfold wrap64 at h
  omega

set_option maxHeartbeats 400000 in
theorem rwith (b i : Int) (w : World) (wb : (Lit.int .i64 b).wf = true) :
    Calls Try.prog 29 #[.int .i64 b, .int .i64 i] w fun e w' => e = .returned (.int .i64 (bits .or .i64 b (elV i))) ∧ w = w' := by
  obtain ⟨b1, b2⟩ := bd wb
  have ho := or_el b i b1 b2
  by_cases h0 : 0 ≤ i
  · by_cases h1 : i ≤ 61
    · cases hb : hasV b i
      · rw [if_pos ⟨h0, h1, hb⟩] at ho
        have HO := Lib.hid ho
        clear ho wb
        have HB := Lib.hid hb
        clear hb
        go_enter Try.func29, Try.ntmps29
        go_wp2_with (go_at_call 25; refine (rhas b i _).mono ?_; rw [HB.out]; rintro e w' ⟨rfl, rfl⟩)
        go_ret
        refine ⟨one (vint ?_), rfl⟩
        rw [HO.out, pow_u64 i h0 h1]
        generalize (2 : Int) ^ i.toNat = P
        simp only [IntKind.wrap_i64, wrap64, IntKind.wrap_u64, U]; omega
      · rw [if_neg (by simp [hb])] at ho
        have HO := Lib.hid ho
        clear ho wb
        have HB := Lib.hid hb
        clear hb
        go_enter Try.func29, Try.ntmps29
        go_wp2_with (go_at_call 25; refine (rhas b i _).mono ?_; rw [HB.out]; rintro e w' ⟨rfl, rfl⟩)
        go_ret
        exact ⟨one (vint HO.out.symm), rfl⟩
    · rw [if_neg (by omega)] at ho
      have HO := Lib.hid ho
      clear ho wb
      go_enter Try.func29, Try.ntmps29
      go_wp2
      go_ret
      exact ⟨one (vint HO.out.symm), rfl⟩
  · rw [if_neg (by omega)] at ho
    have HO := Lib.hid ho
    clear ho wb
    go_enter Try.func29, Try.ntmps29
    go_wp2
    go_ret
    exact ⟨one (vint HO.out.symm), rfl⟩

set_option maxHeartbeats 400000 in
theorem rwithout (b i : Int) (w : World) (wb : (Lit.int .i64 b).wf = true) :
    Calls Try.prog 31 #[.int .i64 b, .int .i64 i] w fun e w' => e = .returned (.int .i64 (bits .andNot .i64 b (elV i))) ∧ w = w' := by
  obtain ⟨b1, b2⟩ := bd wb
  have ho := andNot_el b i b1 b2
  cases hb : hasV b i
  · rw [if_neg (by simp [hb])] at ho
    have HO := Lib.hid ho
    clear ho wb
    have HB := Lib.hid hb
    clear hb
    go_enter Try.func31, Try.ntmps31
    go_wp2_with (go_at_call 25; refine (rhas b i _).mono ?_; rw [HB.out]; rintro e w' ⟨rfl, rfl⟩)
    go_ret
    exact ⟨one (vint HO.out.symm), rfl⟩
  · rw [if_pos hb] at ho
    have HO := Lib.hid ho
    have h : 0 ≤ i ∧ i ≤ 61 := by unfold hasV at hb; simp at hb; exact hb.1
    obtain ⟨h0, h1⟩ := h
    clear ho wb
    have HB := Lib.hid hb
    clear hb
    go_enter Try.func31, Try.ntmps31
    go_wp2_with (go_at_call 25; refine (rhas b i _).mono ?_; rw [HB.out]; rintro e w' ⟨rfl, rfl⟩)
    go_ret
    refine ⟨one (vint ?_), rfl⟩
    rw [HO.out, pow_u64 i h0 h1]
    generalize (2 : Int) ^ i.toNat = P
    simp only [IntKind.wrap_i64, wrap64, IntKind.wrap_u64, U]; omega

set_option maxHeartbeats 400000 in
theorem rbits (b : Int) (w : World) :
    Calls Try.prog 27 #[.int .i64 b] w fun e w' => e = .returned (.int .i64 (bitsV b : Int)) ∧ w = w' := by
  go_enter Try.func27, Try.ntmps27
  go_wp2
  go_loop [3, 4] (fun m i => ∃ k : Nat, k ≤ 62 ∧ i = .int .i64 k ∧ m = .int .i64 (cnt (fun k => hasV b (k : Int)) k : Int)) (fun _ i => 62 - (intOf i).toNat)
  case atStart => exact ⟨0, Nat.zero_le _, rfl, rfl⟩
  case round =>
    obtain ⟨k, hk, rfl, rfl⟩ := hrel
    have hc := cnt_le (fun k => hasV b (k : Int)) k
    by_cases hlt : k < 62
    · have hs : cnt (fun k => hasV b (k : Int)) (k + 1) = cnt (fun k => hasV b (k : Int)) k + if hasV b (k : Int) = true then 1 else 0 := rfl
      cases hb : hasV b (k : Int)
      · rw [hb] at hs
        have HS := Lib.hid hs
        have HB := Lib.hid hb
        clear hs hb
        go_wp2_with (go_at_call 25; refine (rhas b _ _).mono ?_; rw [HB.out]; rintro e w' ⟨rfl, rfl⟩)
        go_round
        case rel => exact ⟨k + 1, by omega, by go_num, by rw [HS.out]; rfl⟩
        case measure => simp [intOf]; omega
      · rw [hb] at hs
        have HS := Lib.hid hs
        have HB := Lib.hid hb
        clear hs hb
        go_wp2_with (go_at_call 25; refine (rhas b _ _).mono ?_; rw [HB.out]; rintro e w' ⟨rfl, rfl⟩)
        go_round
        case rel => exact ⟨k + 1, by omega, by go_num, by rw [HS.out]; go_num⟩
        case measure => simp [intOf]; omega
    · obtain rfl : k = 62 := by omega
      go_wp2
      go_ret
      exact ⟨rfl, rfl⟩


/-! ### products -/
theorem mul_out (a b : Int) (a1 : -9223372036854775808 ≤ a) (a2 : a ≤ 9223372036854775807) (b1 : -9223372036854775808 ≤ b) (b2 : b ≤ 9223372036854775807) (hb : b ≠ 0)
    (hm : ¬ (a = -9223372036854775808 ∧ b = -1)) (ho : a * b < -9223372036854775808 ∨ 9223372036854775807 < a * b) : (wrap64 ((wrap64 (a * b)).tdiv b) == a) = false := by
  rw [beq_eq_false_iff_ne]
  intro h
  have hr := Int.tmod_add_tdiv_mul (wrap64 (a * b)) b
  have hlt : ((wrap64 (a * b)).tmod b).natAbs < b.natAbs := by rw [Int.natAbs_tmod]; exact Nat.mod_lt _ (by omega)
  have hq : ((wrap64 (a * b)).tdiv b).natAbs ≤ (wrap64 (a * b)).natAbs := by rw [Int.natAbs_tdiv]; exact Nat.div_le_self _ _
  by_cases hs : (wrap64 (a * b)) = -9223372036854775808 ∧ b = -1
  · obtain ⟨h1, rfl⟩ := hs
    unfold wrap64 at h1; omega
  · have hp : -9223372036854775808 ≤ wrap64 (a * b) ∧ wrap64 (a * b) ≤ 9223372036854775807 := by unfold wrap64; omega
    have hne : (wrap64 (a * b)).tdiv b ≠ 9223372036854775808 := by
      intro hc
      by_cases hb1 : b = -1
      · subst hb1
        rw [Int.tdiv_neg, Int.tdiv_one] at hc
        exact hs ⟨by omega, rfl⟩
      · by_cases hb2 : b = 1
        · subst hb2; rw [Int.tdiv_one] at hc; omega
        · have : ((wrap64 (a * b)).tdiv b).natAbs ≤ (wrap64 (a * b)).natAbs / 2 := by
            rw [Int.natAbs_tdiv]; exact Nat.div_le_div_left (by omega) (by omega)
          omega
    have hw : wrap64 ((wrap64 (a * b)).tdiv b) = (wrap64 (a * b)).tdiv b := IntWalk.wrap64_in _ ⟨by omega, by omega⟩
    rw [hw] at h
    rw [h] at hr
    unfold wrap64 at hr hlt
    generalize a * b = m at *
    omega
theorem mul_in (a b : Int) (hb : b ≠ 0) (a1 : -9223372036854775808 ≤ a) (a2 : a ≤ 9223372036854775807) (h1 : -9223372036854775808 ≤ a * b) (h2 : a * b ≤ 9223372036854775807) : (wrap64 ((wrap64 (a * b)).tdiv b) == a) = true := by
  rw [IntWalk.wrap64_in (a * b) ⟨h1, h2⟩, Int.mul_tdiv_cancel _ hb, IntWalk.wrap64_in a ⟨a1, a2⟩]; simp

/-- the test of the product says whether it left its range -/
theorem mul_yes (a b : Int) (a1 : -9223372036854775808 ≤ a) (a2 : a ≤ 9223372036854775807) (hb : b ≠ 0)
    (h : (wrap64 ((wrap64 (a * b)).tdiv b) != a) = true) : cv (a * b) = 0 ∧ ce (a * b) = 8 := by
  by_cases ho : a * b < -9223372036854775808 ∨ 9223372036854775807 < a * b
  · exact ⟨cv_out ho, ce_out ho⟩
  · have := mul_in a b hb a1 a2 (by omega) (by omega)
    rw [bne, this] at h; cases h
theorem mul_no (a b : Int) (a1 : -9223372036854775808 ≤ a) (a2 : a ≤ 9223372036854775807) (b1 : -9223372036854775808 ≤ b) (b2 : b ≤ 9223372036854775807) (hb : b ≠ 0)
    (hm : ¬ (a = -9223372036854775808 ∧ b = -1)) (h : (wrap64 ((wrap64 (a * b)).tdiv b) != a) = false) : cv (a * b) = wrap64 (a * b) ∧ ce (a * b) = 0 := by
  by_cases ho : a * b < -9223372036854775808 ∨ 9223372036854775807 < a * b
  · have := mul_out a b a1 a2 b1 b2 hb hm ho
    rw [bne, this] at h; cases h
  · rw [cv_in (by omega) (by omega), ce_in (by omega) (by omega)]
    exact ⟨(IntWalk.wrap64_in _ ⟨by omega, by omega⟩).symm, rfl⟩

set_option maxHeartbeats 400000 in
theorem nmul (a b : Int) (w : World) (wa : (Lit.int .i64 a).wf = true) (wb : (Lit.int .i64 b).wf = true) :
    Calls Try.prog 16 #[.int .i64 a, .int .i64 b] w fun e w' => e = .returned (.tuple #[.int .i64 (cv (a * b)), .int .i64 (ce (a * b))]) ∧ w = w' := by
  obtain ⟨a1, a2⟩ := bd wa
  obtain ⟨b1, b2⟩ := bd wb
  clear wa wb
  by_cases ha : a = 0
  · subst ha
    go_enter Try.func16, Try.ntmps16
    go_wp2
    go_ret2
    exact ⟨tup2 (vint (by rw [Int.zero_mul]; rfl)) (vint (by rw [Int.zero_mul]; rfl)), rfl⟩
  · have ka : (a == 0) = false := by simpa using ha
    by_cases hb : b = 0
    · subst hb
      go_enter Try.func16, Try.ntmps16
      go_wp2
      go_ret2
      exact ⟨tup2 (vint (by rw [Int.mul_zero]; rfl)) (vint (by rw [Int.mul_zero]; rfl)), rfl⟩
    · have kb : (b == 0) = false := by simpa using hb
      by_cases hm : a = -9223372036854775808 ∧ b = -1
      · obtain ⟨rfl, rfl⟩ := hm
        go_enter Try.func16, Try.ntmps16
        go_wp2
        go_ret2
        exact ⟨tup2 (vint (by rw [cv_out (by decide)])) (vint (by rw [ce_out (by decide)])), rfl⟩
      · have Y := mul_yes a b a1 a2 hb
        have N := mul_no a b a1 a2 b1 b2 hb hm
        have HY := Lib.hid Y
        have HN := Lib.hid N
        by_cases hx : a = -9223372036854775808
        · have hy : (b == -1) = false := by simp; intro h; exact hm ⟨hx, h⟩
          have hz : (a == -9223372036854775808) = true := by simpa using hx
          clear Y N hm hx
          go_enter Try.func16, Try.ntmps16
          go_wp2
          all_goals
            go_ret2
            first | exact ⟨tup2 (vint (HY.out ‹_›).1.symm) (vint (HY.out ‹_›).2.symm), rfl⟩ | exact ⟨tup2 (vint (HN.out ‹_›).1.symm) (vint (HN.out ‹_›).2.symm), rfl⟩
        · have hy : (a == -9223372036854775808) = false := by simpa using hx
          clear Y N hm hx
          go_enter Try.func16, Try.ntmps16
          go_wp2
          all_goals
            go_ret2
            first | exact ⟨tup2 (vint (HY.out ‹_›).1.symm) (vint (HY.out ‹_›).2.symm), rfl⟩ | exact ⟨tup2 (vint (HN.out ‹_›).1.symm) (vint (HN.out ‹_›).2.symm), rfl⟩

/-- parts, the sign and the size under names -/
theorem partsx (a x : Int) (s : Bool) (w : World) (wa : (Lit.int .i64 a).wf = true) (hs : decide (a < 0) = s) (hx : (a.natAbs : Int) = x) :
    Calls Try.prog 59 #[.int .i64 a] w fun e w' => e = .returned (.tuple #[.bool s, .int .u64 x]) ∧ w = w' := by
  subst hx; subst hs; exact parts a w wa

theorem sgn_mul (a b x y : Int) (hx : (a.natAbs : Int) = x) (hy : (b.natAbs : Int) = y) : sgn ((decide (a < 0) != decide (b < 0)) && (x * y != 0)) (x * y) = a * b := by
  by_cases ha : a < 0 <;> by_cases hb : b < 0
  · have e1 : x = -a := by omega
    have e2 : y = -b := by omega
    rw [e1, e2, Int.neg_mul_neg]
    simp [ha, hb, sgn]
  · have e1 : x = -a := by omega
    have e2 : y = b := by omega
    rw [e1, e2, Int.neg_mul]; generalize a * b = m
    simp [ha, hb, sgn]
    intro h; omega
  · have e1 : x = a := by omega
    have e2 : y = -b := by omega
    rw [e1, e2, Int.mul_neg]; generalize a * b = m
    simp [ha, hb, sgn]
    intro h; omega
  · have e1 : x = a := by omega
    have e2 : y = b := by omega
    rw [e1, e2]
    simp [ha, hb, sgn]

theorem over_iff (x y : Int) (hx : 1 ≤ x) : 9223372036854775808 / x < y ↔ 9223372036854775808 < x * y := by
  rw [Int.ediv_lt_iff_lt_mul (by omega), Int.mul_comm]

set_option maxHeartbeats 1000000 in
theorem rmul_at (a b x y : Int) (s t : Bool) (w : World) (wa : (Lit.int .i64 a).wf = true) (wb : (Lit.int .i64 b).wf = true) (hs : decide (a < 0) = s) (ht : decide (b < 0) = t)
    (hx : (a.natAbs : Int) = x) (hy : (b.natAbs : Int) = y) (x1 : 0 ≤ x) (x2 : x ≤ 9223372036854775808) (_y1 : 0 ≤ y) (_y2 : y ≤ 9223372036854775808) (p1 : 0 ≤ x * y) :
    Calls Try.prog 19 #[.int .i64 a, .int .i64 b] w fun e w' => e = .returned (.tuple #[.int .i64 (cv (sgn ((s != t) && (x * y != 0)) (x * y))), .int .i64 (ce (sgn ((s != t) && (x * y != 0)) (x * y)))]) ∧ w = w' := by
  have HS := Lib.hid hs
  have HT := Lib.hid ht
  have HX := Lib.hid hx
  have HY := Lib.hid hy
  have WA := Lib.hid wa
  have WB := Lib.hid wb
  clear hs ht hx hy wa wb
  by_cases h0 : x = 0
  · subst h0
    clear p1
    have e0 : (0 : Int) * y = 0 := Int.zero_mul y
    rw [e0]
    clear e0
    cases s <;> cases t
    all_goals
      go_enter Try.func19, Try.ntmps19
      go_wp2_with fail
      refine (partsx a 0 _ _ WA.out HS.out HX.out).mono ?_
      rintro e w' ⟨rfl, rfl⟩
      go_wp2_with fail
      refine (partsx b y _ _ WB.out HT.out HY.out).mono ?_
      rintro e w' ⟨rfl, rfl⟩
      go_wp2_with fail
      refine (whole _ _ _ (by omega) (by omega)).mono ?_
      rintro e w' ⟨rfl, rfl⟩
      go_wp2_with fail
      go_ret2
      exact ⟨rfl, rfl⟩
  · have x3 : 1 ≤ x := by omega
    have xn : (x != 0) = true := by simpa using h0
    by_cases h1 : 9223372036854775808 / x < y
    · have hb : 9223372036854775808 < x * y := (over_iff x y x3).1 h1
      have e1 : cv (sgn ((s != t) && (x * y != 0)) (x * y)) = 0 := by
        apply cv_out
        cases s <;> cases t <;> simp [sgn] <;> (try split) <;> omega
      have e2 : ce (sgn ((s != t) && (x * y != 0)) (x * y)) = 8 := by
        apply ce_out
        cases s <;> cases t <;> simp [sgn] <;> (try split) <;> omega
      rw [e1, e2]
      clear e1 e2
      go_enter Try.func19, Try.ntmps19
      go_wp2_with fail
      refine (partsx a x _ _ WA.out HS.out HX.out).mono ?_
      rintro e w' ⟨rfl, rfl⟩
      go_wp2_with fail
      refine (partsx b y _ _ WB.out HT.out HY.out).mono ?_
      rintro e w' ⟨rfl, rfl⟩
      go_wp2_with fail
      go_ret2
      exact ⟨rfl, rfl⟩
    · have hb : x * y ≤ 9223372036854775808 := by have := over_iff x y x3; omega
      by_cases hz : x * y = 0
      · have z : (x * y != 0) = false := by simpa using hz
        have HZ := Lib.hid hz
        clear hz
        cases s <;> cases t
        all_goals
          go_enter Try.func19, Try.ntmps19
          go_wp2_with fail
          refine (partsx a x _ _ WA.out HS.out HX.out).mono ?_
          rintro e w' ⟨rfl, rfl⟩
          go_wp2_with fail
          refine (partsx b y _ _ WB.out HT.out HY.out).mono ?_
          rintro e w' ⟨rfl, rfl⟩
          go_wp2_with fail
          refine (whole _ _ _ (by omega) (by omega)).mono ?_
          rintro e w' ⟨rfl, rfl⟩
          go_wp2_with fail
          go_ret2
          exact ⟨by rw [z]; rfl, rfl⟩
      · have z : (x * y != 0) = true := by simpa using hz
        cases s <;> cases t
        all_goals
          go_enter Try.func19, Try.ntmps19
          go_wp2_with fail
          refine (partsx a x _ _ WA.out HS.out HX.out).mono ?_
          rintro e w' ⟨rfl, rfl⟩
          go_wp2_with fail
          refine (partsx b y _ _ WB.out HT.out HY.out).mono ?_
          rintro e w' ⟨rfl, rfl⟩
          go_wp2_with fail
          refine (whole _ _ _ (by omega) (by omega)).mono ?_
          rintro e w' ⟨rfl, rfl⟩
          go_wp2_with fail
          go_ret2
          exact ⟨by rw [z]; rfl, rfl⟩

theorem rmul (a b : Int) (w : World) (wa : (Lit.int .i64 a).wf = true) (wb : (Lit.int .i64 b).wf = true) :
    Calls Try.prog 19 #[.int .i64 a, .int .i64 b] w fun e w' => e = .returned (.tuple #[.int .i64 (cv (a * b)), .int .i64 (ce (a * b))]) ∧ w = w' := by
  obtain ⟨a1, a2⟩ := bd wa
  obtain ⟨b1, b2⟩ := bd wb
  have h := rmul_at a b _ _ _ _ w wa wb rfl rfl rfl rfl (by omega) (by omega) (by omega) (by omega) (Int.mul_nonneg (by omega) (by omega))
  rw [sgn_mul a b _ _ rfl rfl] at h
  exact h

end Go.Proofs.Ytbdlhcgilcpeoaa.W
