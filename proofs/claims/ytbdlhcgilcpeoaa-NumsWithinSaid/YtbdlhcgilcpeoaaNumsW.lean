/- CONTRACTS of the functions of layer 1 (nums) and of their references. -/
import Derived.Test.YtbdlhcgilcpeoaaBase
import Derived.Test.YtbdlhcgilcpeoaaBitsP
namespace Go.Proofs.Ytbdlhcgilcpeoaa.W
open Go.ChangeShapes Go.WideShapes Go.ChangeAt Go.RowKit
open Go.Proofs.Ytbdlhcgilcpeoaa.B


/-- what a checked operation answers of its true result x: the number, and the error -/
def cv (x : Int) : Int := if x < -9223372036854775808 ∨ 9223372036854775807 < x then 0 else x
def ce (x : Int) : Int := if x < -9223372036854775808 ∨ 9223372036854775807 < x then 8 else 0
theorem cv_in {x : Int} (h1 : -9223372036854775808 ≤ x) (h2 : x ≤ 9223372036854775807) : cv x = x := by unfold cv; rw [if_neg (by omega)]
theorem ce_in {x : Int} (h1 : -9223372036854775808 ≤ x) (h2 : x ≤ 9223372036854775807) : ce x = 0 := by unfold ce; rw [if_neg (by omega)]
theorem cv_out {x : Int} (h : x < -9223372036854775808 ∨ 9223372036854775807 < x) : cv x = 0 := by unfold cv; rw [if_pos h]
theorem ce_out {x : Int} (h : x < -9223372036854775808 ∨ 9223372036854775807 < x) : ce x = 8 := by unfold ce; rw [if_pos h]
set_option maxHeartbeats 400000 in
theorem within (n low high : Int) (w : World) :
    Calls Try.prog 21 #[.int .i64 n, .int .i64 low, .int .i64 high] w fun e w' => e = .returned (.bool (decide (low ≤ n) && decide (n ≤ high))) ∧ w = w' := by
  go_enter Try.func21, Try.ntmps21
  go_wp2
  all_goals
    go_ret
    exact ⟨by congr 2; simp; omega, rfl⟩

set_option maxHeartbeats 400000 in
theorem nadd (a b : Int) (w : World) (wa : (Lit.int .i64 a).wf = true) (wb : (Lit.int .i64 b).wf = true) :
    Calls Try.prog 14 #[.int .i64 a, .int .i64 b] w fun e w' => e = .returned (.tuple #[.int .i64 (cv (a + b)), .int .i64 (ce (a + b))]) ∧ w = w' := by
  obtain ⟨a1, a2⟩ := bd wa
  obtain ⟨b1, b2⟩ := bd wb
  clear wa wb
  go_enter Try.func14, Try.ntmps14
  go_wp2
  all_goals
    go_ret2
    first | (rw [cv_in (by omega) (by omega), ce_in (by omega) (by omega)]; exact ⟨rfl, rfl⟩) | (rw [cv_out (by omega), ce_out (by omega)]; exact ⟨rfl, rfl⟩)

set_option maxHeartbeats 400000 in
theorem nsub (a b : Int) (w : World) (wa : (Lit.int .i64 a).wf = true) (wb : (Lit.int .i64 b).wf = true) :
    Calls Try.prog 15 #[.int .i64 a, .int .i64 b] w fun e w' => e = .returned (.tuple #[.int .i64 (cv (a - b)), .int .i64 (ce (a - b))]) ∧ w = w' := by
  obtain ⟨a1, a2⟩ := bd wa
  obtain ⟨b1, b2⟩ := bd wb
  clear wa wb
  go_enter Try.func15, Try.ntmps15
  go_wp2
  all_goals
    go_ret2
    first | (rw [cv_in (by omega) (by omega), ce_in (by omega) (by omega)]; exact ⟨rfl, rfl⟩) | (rw [cv_out (by omega), ce_out (by omega)]; exact ⟨rfl, rfl⟩)

set_option maxHeartbeats 400000 in
theorem radd (a b : Int) (w : World) (wa : (Lit.int .i64 a).wf = true) (wb : (Lit.int .i64 b).wf = true) :
    Calls Try.prog 17 #[.int .i64 a, .int .i64 b] w fun e w' => e = .returned (.tuple #[.int .i64 (cv (a + b)), .int .i64 (ce (a + b))]) ∧ w = w' := by
  obtain ⟨a1, a2⟩ := bd wa
  obtain ⟨b1, b2⟩ := bd wb
  clear wa wb
  go_enter Try.func17, Try.ntmps17
  go_wp2
  all_goals
    go_ret2
    first | (rw [cv_in (by omega) (by omega), ce_in (by omega) (by omega)]; exact ⟨rfl, rfl⟩) | (rw [cv_out (by omega), ce_out (by omega)]; exact ⟨rfl, rfl⟩)

set_option maxHeartbeats 400000 in
theorem rsub (a b : Int) (w : World) (wa : (Lit.int .i64 a).wf = true) (wb : (Lit.int .i64 b).wf = true) :
    Calls Try.prog 18 #[.int .i64 a, .int .i64 b] w fun e w' => e = .returned (.tuple #[.int .i64 (cv (a - b)), .int .i64 (ce (a - b))]) ∧ w = w' := by
  obtain ⟨a1, a2⟩ := bd wa
  obtain ⟨b1, b2⟩ := bd wb
  clear wa wb
  go_enter Try.func18, Try.ntmps18
  go_wp2
  all_goals
    go_ret2
    first | (rw [cv_in (by omega) (by omega), ce_in (by omega) (by omega)]; exact ⟨rfl, rfl⟩) | (rw [cv_out (by omega), ce_out (by omega)]; exact ⟨rfl, rfl⟩)


theorem neg_u64 (a : Int) (h1 : -9223372036854775808 ≤ a) (h2 : a < 0) : IntKind.u64.wrap (-IntKind.u64.wrap a) = (a.natAbs : Int) := by
  rw [IntKind.wrap_u64, IntKind.wrap_u64]; omega

set_option maxHeartbeats 400000 in
theorem parts (a : Int) (w : World) (wa : (Lit.int .i64 a).wf = true) :
    Calls Try.prog 59 #[.int .i64 a] w fun e w' => e = .returned (.tuple #[.bool (decide (a < 0)), .int .u64 (a.natAbs : Int)]) ∧ w = w' := by
  obtain ⟨a1, a2⟩ := bd wa
  clear wa
  by_cases h : a < 0
  · go_enter Try.func59, Try.ntmps59
    go_wp2
    go_ret2
    exact ⟨tup2 (vbool (by simp [h])) (vint (neg_u64 a a1 h)), rfl⟩
  · go_enter Try.func59, Try.ntmps59
    go_wp2
    go_ret2
    exact ⟨tup2 (vbool (by simp; omega)) (vint (by omega)), rfl⟩

/-- the number of a sign and a size -/
def sgn (m : Bool) (x : Int) : Int := if m then -x else x

set_option maxHeartbeats 400000 in
theorem whole (m : Bool) (x : Int) (w : World) (h0 : 0 ≤ x) (hx : x ≤ 9223372036854775808) :
    Calls Try.prog 60 #[.bool m, .int .u64 x] w fun e w' => e = .returned (.tuple #[.int .i64 (cv (sgn m x)), .int .i64 (ce (sgn m x))]) ∧ w = w' := by
  cases m
  · by_cases h : x < 9223372036854775808
    all_goals
      go_enter Try.func60, Try.ntmps60
      go_wp2
      go_ret2
      first | (rw [cv_in (by simp [sgn]; omega) (by simp [sgn]; omega), ce_in (by simp [sgn]; omega) (by simp [sgn]; omega)]; exact ⟨rfl, rfl⟩) | (rw [cv_out (by simp [sgn]; omega), ce_out (by simp [sgn]; omega)]; exact ⟨rfl, rfl⟩)
  · go_enter Try.func60, Try.ntmps60
    go_wp2
    all_goals
      go_ret2
      rw [cv_in (by simp [sgn]; omega) (by simp [sgn]; omega), ce_in (by simp [sgn]; omega) (by simp [sgn]; omega)]
      exact ⟨tup2 (vint (by simp only [sgn, IntKind.wrap_u64, wrap64, if_true]; omega)) rfl, rfl⟩

theorem pow_in (i : Int) (h0 : 0 ≤ i) (h1 : i ≤ 61) : wrap64 (2 ^ i.toNat) = 2 ^ i.toNat := by
  obtain ⟨n, rfl⟩ := Int.eq_ofNat_of_zero_le h0
  have h : n < 62 := by omega
  rw [Int.toNat_natCast]
  have h2 : (2 : Int) ^ n ≤ 2 ^ 61 := by
    have : (2 : Nat) ^ n ≤ 2 ^ 61 := Nat.pow_le_pow_right (by omega) (by omega)
    exact_mod_cast this
  have h3 : (0 : Int) ≤ 2 ^ n := Int.le_of_lt (Int.pow_pos (by decide))
  have h4 : (2 : Int) ^ 61 = 2305843009213693952 := by decide
  exact IntWalk.wrap64_in _ ⟨by omega, by omega⟩

set_option maxHeartbeats 400000 in
theorem elem (i : Int) (w : World) :
    Calls Try.prog 61 #[.int .i64 i] w fun e w' => e = .returned (.int .i64 (elV i)) ∧ w = w' := by
  by_cases h0 : 0 ≤ i
  · by_cases h1 : i ≤ 61
    · go_enter Try.func61, Try.ntmps61
      go_wp2
      go_ret
      exact ⟨one (vint (by unfold elV; rw [if_pos ⟨h0, h1⟩]; exact pow_in i h0 h1)), rfl⟩
    · go_enter Try.func61, Try.ntmps61
      go_wp2
      go_ret
      exact ⟨one (vint (by unfold elV; rw [if_neg (by omega)])), rfl⟩
  · go_enter Try.func61, Try.ntmps61
    go_wp2
    go_ret
    exact ⟨one (vint (by unfold elV; rw [if_neg (by omega)])), rfl⟩


set_option maxHeartbeats 400000 in
theorem nhas (b i : Int) (w : World) :
    Calls Try.prog 24 #[.int .i64 b, .int .i64 i] w fun e w' => e = .returned (.bool (hasV b i)) ∧ w = w' := by
  go_enter Try.func24, Try.ntmps24
  go_wp2_with (go_at_call 61; refine (elem i _).mono ?_; rintro e w' ⟨rfl, rfl⟩)
  go_ret
  exact ⟨one (vbool (and_el b i)), rfl⟩

set_option maxHeartbeats 400000 in
theorem nwith (b i : Int) (w : World) :
    Calls Try.prog 28 #[.int .i64 b, .int .i64 i] w fun e w' => e = .returned (.int .i64 (bits .or .i64 b (elV i))) ∧ w = w' := by
  go_enter Try.func28, Try.ntmps28
  go_wp2_with (go_at_call 61; refine (elem i _).mono ?_; rintro e w' ⟨rfl, rfl⟩)
  go_ret
  exact ⟨rfl, rfl⟩

set_option maxHeartbeats 400000 in
theorem nwithout (b i : Int) (w : World) :
    Calls Try.prog 30 #[.int .i64 b, .int .i64 i] w fun e w' => e = .returned (.int .i64 (bits .andNot .i64 b (elV i))) ∧ w = w' := by
  go_enter Try.func30, Try.ntmps30
  go_wp2_with (go_at_call 61; refine (elem i _).mono ?_; rintro e w' ⟨rfl, rfl⟩)
  go_ret
  exact ⟨rfl, rfl⟩

set_option maxHeartbeats 400000 in
theorem onesC (x : Int) (w : World) :
    Calls Try.prog 62 #[.int .u64 x] w fun e w' => e = .returned (.int .i64 (bits .and .i64 (wrap64 (s6 (s5 (s4 (s3 (s2 (s1 x))))))) 127)) ∧ w = w' := by
  go_enter Try.func62, Try.ntmps62
  go_wp2
  go_ret
  exact ⟨one (vint rfl), rfl⟩

set_option maxHeartbeats 400000 in
theorem nbits (b : Int) (w : World) :
    Calls Try.prog 26 #[.int .i64 b] w fun e w' => e = .returned (.int .i64 (bitsV b : Int)) ∧ w = w' := by
  have e : IntKind.u64.wrap (bits .and .i64 b 4611686018427387903) = (U (bits .and .i64 b 4611686018427387903) : Int) := by
    rw [IntKind.wrap_u64]; unfold U; omega
  have hlt := U_lt (bits .and .i64 b 4611686018427387903)
  have h := ones_eq _ hlt
  rw [ones_mask, ← e, IntWalk.i64_left] at h
  have H := Lib.hid h
  clear h e hlt
  go_enter Try.func26, Try.ntmps26
  go_wp2_with (go_at_call 62; refine (onesC _ _).mono ?_; rintro e w' ⟨rfl, rfl⟩)
  go_ret
  exact ⟨one (vint H.out), rfl⟩

set_option maxHeartbeats 400000 in
theorem rhas (b i : Int) (w : World) :
    Calls Try.prog 25 #[.int .i64 b, .int .i64 i] w fun e w' => e = .returned (.bool (hasV b i)) ∧ w = w' := by
  by_cases h0 : 0 ≤ i
  · by_cases h1 : i ≤ 61
    · go_enter Try.func25, Try.ntmps25
      go_wp2
      go_ret
      refine ⟨one (vbool ?_), rfl⟩
      have hn : 0 ≤ IntKind.u64.wrap b / 2 ^ i.toNat := Int.ediv_nonneg (by rw [IntKind.wrap_u64]; omega) (Int.le_of_lt (Int.pow_pos (by decide)))
      rw [← has_ref b i h0 h1 _ rfl, ← IntKind.wrap_u64]
      exact congrArg (fun x => x == 1) (Int.tmod_eq_emod_of_nonneg hn)
    · go_enter Try.func25, Try.ntmps25
      go_wp2
      go_ret
      exact ⟨one (vbool (by simp [hasV]; omega)), rfl⟩
  · go_enter Try.func25, Try.ntmps25
    go_wp2
    go_ret
    exact ⟨one (vbool (by simp [hasV]; omega)), rfl⟩

end Go.Proofs.Ytbdlhcgilcpeoaa.W
