/- CONTRACTS of the functions of layer 1 (nums) and of their references. -/
import Derived.Test.YtmacjpgeamlmhaaBase
import Derived.Test.YtmacjpgeamlmhaaBitsP
set_option linter.unusedSimpArgs false
set_option linter.unusedVariables false
namespace Go.Proofs.Ytmacjpgeamlmhaa.W
open Go.ChangeShapes Go.WideShapes Go.ChangeAt Go.RowKit
open Go.Proofs.Ytmacjpgeamlmhaa.B


/-- what a checked operation answers of its true result x: the number, and the error -/
def cv (x : Int) : Int := if x < -9223372036854775808 ∨ 9223372036854775807 < x then 0 else x
def ce (x : Int) : Int := if x < -9223372036854775808 ∨ 9223372036854775807 < x then 8 else 0
theorem cv_in {x : Int} (h1 : -9223372036854775808 ≤ x) (h2 : x ≤ 9223372036854775807) : cv x = x := by unfold cv; rw [if_neg (by omega)]
theorem ce_in {x : Int} (h1 : -9223372036854775808 ≤ x) (h2 : x ≤ 9223372036854775807) : ce x = 0 := by unfold ce; rw [if_neg (by omega)]
theorem cv_out {x : Int} (h : x < -9223372036854775808 ∨ 9223372036854775807 < x) : cv x = 0 := by unfold cv; rw [if_pos h]
theorem ce_out {x : Int} (h : x < -9223372036854775808 ∨ 9223372036854775807 < x) : ce x = 8 := by unfold ce; rw [if_pos h]
set_option maxHeartbeats 400000 in
theorem within (n low high : Int) (w : World) :
    Calls Try.prog 74 #[.int .i64 n, .int .i64 low, .int .i64 high] w fun e w' => e = .returned (.bool (decide (low ≤ n) && decide (n ≤ high))) ∧ w = w' := by
  go_enter Try.func74, Try.ntmps74
  go_wp2
  all_goals
    go_ret
    exact ⟨by congr 2; simp; omega, rfl⟩






theorem neg_u64 (a : Int) (h1 : -9223372036854775808 ≤ a) (h2 : a < 0) : IntKind.u64.wrap (-IntKind.u64.wrap a) = (a.natAbs : Int) := by
  rw [IntKind.wrap_u64, IntKind.wrap_u64]; omega


/-- the number of a sign and a size -/
def sgn (m : Bool) (x : Int) : Int := if m then -x else x


theorem pow_in (i : Int) (h0 : 0 ≤ i) (h1 : i ≤ 61) : wrap64 (2 ^ i.toNat) = 2 ^ i.toNat := by
  obtain ⟨n, rfl⟩ := Int.eq_ofNat_of_zero_le h0
  have h : n < 62 := by omega
  rw [Int.toNat_natCast]
  have h2 : (2 : Int) ^ n ≤ 2 ^ 61 := by
    have : (2 : Nat) ^ n ≤ 2 ^ 61 := Nat.pow_le_pow_right (by omega) (by omega)
    exact_mod_cast this
  have h3 : (0 : Int) ≤ 2 ^ n := Int.le_of_lt (Int.pow_pos (by decide))
  have h4 : (2 : Int) ^ 61 = 2305843009213693952 := by decide
  exact IntWalk.wrap64_in _ ⟨by omega, by omega⟩









end Go.Proofs.Ytmacjpgeamlmhaa.W
