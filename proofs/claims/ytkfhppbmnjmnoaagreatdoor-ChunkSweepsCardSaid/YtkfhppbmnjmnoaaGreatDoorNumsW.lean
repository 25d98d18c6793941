/- CONTRACTS of the functions of layer 1 (nums) and of their references. CONTRACTS of layer 1 (nums), the second part: sets of the references; products. -/
import Derived.Test.YtkfhppbmnjmnoaaGreatDoorBase
import Derived.Test.YtkfhppbmnjmnoaaGreatDoorBitsP
set_option linter.unusedSimpArgs false
set_option linter.unusedVariables false
namespace Go.Proofs.YtkfhppbmnjmnoaaGreatDoor.W
open Go.ChangeShapes Go.WideShapes Go.ChangeAt Go.RowKit
open Go.Proofs.YtkfhppbmnjmnoaaGreatDoor.B


/-- what a checked operation answers of its true result x: the number, and the error -/
def cv (x : Int) : Int := if x < -9223372036854775808 ∨ 9223372036854775807 < x then 0 else x
def ce (x : Int) : Int := if x < -9223372036854775808 ∨ 9223372036854775807 < x then 8 else 0
theorem cv_in {x : Int} (h1 : -9223372036854775808 ≤ x) (h2 : x ≤ 9223372036854775807) : cv x = x := by unfold cv; rw [if_neg (by omega)]
theorem ce_in {x : Int} (h1 : -9223372036854775808 ≤ x) (h2 : x ≤ 9223372036854775807) : ce x = 0 := by unfold ce; rw [if_neg (by omega)]
theorem cv_out {x : Int} (h : x < -9223372036854775808 ∨ 9223372036854775807 < x) : cv x = 0 := by unfold cv; rw [if_pos h]
theorem ce_out {x : Int} (h : x < -9223372036854775808 ∨ 9223372036854775807 < x) : ce x = 8 := by unfold ce; rw [if_pos h]
set_option maxHeartbeats 400000 in
theorem within (n low high : Int) (w : World) :
    Calls Tryz.prog 35 #[.int .i64 n, .int .i64 low, .int .i64 high] w fun e w' => e = .returned (.bool (decide (low ≤ n) && decide (n ≤ high))) ∧ w = w' := by
  go_enter Tryz.func35, Tryz.ntmps35
  go_wp2
  all_goals
    go_ret
    exact ⟨by congr 2; simp; omega, rfl⟩






theorem neg_u64 (a : Int) (h1 : -9223372036854775808 ≤ a) (h2 : a < 0) : IntKind.u64.wrap (-IntKind.u64.wrap a) = (a.natAbs : Int) := by
  rw [IntKind.wrap_u64, IntKind.wrap_u64]; omega


/-- the number of a sign and a size -/
def sgn (m : Bool) (x : Int) : Int := if m then -x else x


theorem pow_in (i : Int) (h0 : 0 ≤ i) (h1 : i ≤ 61) : wrap64 (2 ^ i.toNat) = 2 ^ i.toNat := by
  obtain ⟨n, rfl⟩ := Int.eq_ofNat_of_zero_le h0
  have h : n < 62 := by omega
  rw [Int.toNat_natCast]
  have h2 : (2 : Int) ^ n ≤ 2 ^ 61 := by
    have : (2 : Nat) ^ n ≤ 2 ^ 61 := Nat.pow_le_pow_right (by omega) (by omega)
    exact_mod_cast this
  have h3 : (0 : Int) ≤ 2 ^ n := Int.le_of_lt (Int.pow_pos (by decide))
  have h4 : (2 : Int) ^ 61 = 2305843009213693952 := by decide
  exact IntWalk.wrap64_in _ ⟨by omega, by omega⟩









end Go.Proofs.YtkfhppbmnjmnoaaGreatDoor.W

namespace Go.Proofs.YtkfhppbmnjmnoaaGreatDoor.W
open Go.ChangeShapes Go.WideShapes Go.ChangeAt Go.RowKit
open Go.Proofs.YtkfhppbmnjmnoaaGreatDoor.B

theorem pow_u64 (i : Int) (h0 : 0 ≤ i) (h1 : i ≤ 61) : IntKind.u64.wrap (2 ^ i.toNat) = 2 ^ i.toNat := by
  have h := pow_in i h0 h1
  have h3 : (0 : Int) ≤ 2 ^ i.toNat := Int.le_of_lt (Int.pow_pos (by decide))
  rw [IntKind.wrap_u64]
  unfold wrap64 at h
  omega



theorem mul_out (a b : Int) (a1 : -9223372036854775808 ≤ a) (a2 : a ≤ 9223372036854775807) (b1 : -9223372036854775808 ≤ b) (b2 : b ≤ 9223372036854775807) (hb : b ≠ 0)
    (hm : ¬ (a = -9223372036854775808 ∧ b = -1)) (ho : a * b < -9223372036854775808 ∨ 9223372036854775807 < a * b) : (wrap64 ((wrap64 (a * b)).tdiv b) == a) = false := by
  rw [beq_eq_false_iff_ne]
  intro h
  have hr := Int.tmod_add_tdiv_mul (wrap64 (a * b)) b
  have hlt : ((wrap64 (a * b)).tmod b).natAbs < b.natAbs := by rw [Int.natAbs_tmod]; exact Nat.mod_lt _ (by omega)
  have hq : ((wrap64 (a * b)).tdiv b).natAbs ≤ (wrap64 (a * b)).natAbs := by rw [Int.natAbs_tdiv]; exact Nat.div_le_self _ _
  by_cases hs : (wrap64 (a * b)) = -9223372036854775808 ∧ b = -1
  · obtain ⟨h1, rfl⟩ := hs
    unfold wrap64 at h1; omega
  · have hp : -9223372036854775808 ≤ wrap64 (a * b) ∧ wrap64 (a * b) ≤ 9223372036854775807 := by unfold wrap64; omega
    have hne : (wrap64 (a * b)).tdiv b ≠ 9223372036854775808 := by
      intro hc
      by_cases hb1 : b = -1
      · subst hb1
        rw [Int.tdiv_neg, Int.tdiv_one] at hc
        exact hs ⟨by omega, rfl⟩
      · by_cases hb2 : b = 1
        · subst hb2; rw [Int.tdiv_one] at hc; omega
        · have : ((wrap64 (a * b)).tdiv b).natAbs ≤ (wrap64 (a * b)).natAbs / 2 := by
            rw [Int.natAbs_tdiv]; exact Nat.div_le_div_left (by omega) (by omega)
          omega
    have hw : wrap64 ((wrap64 (a * b)).tdiv b) = (wrap64 (a * b)).tdiv b := IntWalk.wrap64_in _ ⟨by omega, by omega⟩
    rw [hw] at h
    rw [h] at hr
    unfold wrap64 at hr hlt
    generalize a * b = m at *
    omega
theorem mul_in (a b : Int) (hb : b ≠ 0) (a1 : -9223372036854775808 ≤ a) (a2 : a ≤ 9223372036854775807) (h1 : -9223372036854775808 ≤ a * b) (h2 : a * b ≤ 9223372036854775807) : (wrap64 ((wrap64 (a * b)).tdiv b) == a) = true := by
  rw [IntWalk.wrap64_in (a * b) ⟨h1, h2⟩, Int.mul_tdiv_cancel _ hb, IntWalk.wrap64_in a ⟨a1, a2⟩]; simp

/-- the test of the product says whether it left its range -/
theorem mul_yes (a b : Int) (a1 : -9223372036854775808 ≤ a) (a2 : a ≤ 9223372036854775807) (hb : b ≠ 0)
    (h : (wrap64 ((wrap64 (a * b)).tdiv b) != a) = true) : cv (a * b) = 0 ∧ ce (a * b) = 8 := by
  by_cases ho : a * b < -9223372036854775808 ∨ 9223372036854775807 < a * b
  · exact ⟨cv_out ho, ce_out ho⟩
  · have := mul_in a b hb a1 a2 (by omega) (by omega)
    rw [bne, this] at h; cases h
theorem mul_no (a b : Int) (a1 : -9223372036854775808 ≤ a) (a2 : a ≤ 9223372036854775807) (b1 : -9223372036854775808 ≤ b) (b2 : b ≤ 9223372036854775807) (hb : b ≠ 0)
    (hm : ¬ (a = -9223372036854775808 ∧ b = -1)) (h : (wrap64 ((wrap64 (a * b)).tdiv b) != a) = false) : cv (a * b) = wrap64 (a * b) ∧ ce (a * b) = 0 := by
  by_cases ho : a * b < -9223372036854775808 ∨ 9223372036854775807 < a * b
  · have := mul_out a b a1 a2 b1 b2 hb hm ho
    rw [bne, this] at h; cases h
  · rw [cv_in (by omega) (by omega), ce_in (by omega) (by omega)]
    exact ⟨(IntWalk.wrap64_in _ ⟨by omega, by omega⟩).symm, rfl⟩



theorem sgn_mul (a b x y : Int) (hx : (a.natAbs : Int) = x) (hy : (b.natAbs : Int) = y) : sgn ((decide (a < 0) != decide (b < 0)) && (x * y != 0)) (x * y) = a * b := by
  by_cases ha : a < 0 <;> by_cases hb : b < 0
  · have e1 : x = -a := by omega
    have e2 : y = -b := by omega
    rw [e1, e2, Int.neg_mul_neg]
    simp [ha, hb, sgn]
  · have e1 : x = -a := by omega
    have e2 : y = b := by omega
    rw [e1, e2, Int.neg_mul]; generalize a * b = m
    simp [ha, hb, sgn]
    intro h; omega
  · have e1 : x = a := by omega
    have e2 : y = -b := by omega
    rw [e1, e2, Int.mul_neg]; generalize a * b = m
    simp [ha, hb, sgn]
    intro h; omega
  · have e1 : x = a := by omega
    have e2 : y = b := by omega
    rw [e1, e2]
    simp [ha, hb, sgn]

theorem over_iff (x y : Int) (hx : 1 ≤ x) : 9223372036854775808 / x < y ↔ 9223372036854775808 < x * y := by
  rw [Int.ediv_lt_iff_lt_mul (by omega), Int.mul_comm]



end Go.Proofs.YtkfhppbmnjmnoaaGreatDoor.W
