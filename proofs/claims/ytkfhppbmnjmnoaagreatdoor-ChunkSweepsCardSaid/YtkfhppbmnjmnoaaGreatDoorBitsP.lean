/- PLAIN MATHEMATICS of 64 bits: no program. What 'and', 'or', 'and not' with one bit do to a number of 64 bits in two's complement; how many bits a number has, and that the sum by masks (OnesCount64) is that many. -/
import Derived.WalkKit
import Derived.Laws.BitsAllLaws
set_option linter.unusedSimpArgs false
set_option linter.unusedVariables false
namespace Go.Proofs.YtkfhppbmnjmnoaaGreatDoor.B
open Go.RowKit

/-- a number of 64 bits, without its sign -/
def U (x : Int) : Nat := (x % 18446744073709551616).toNat
theorem U_lt (x : Int) : U x < 18446744073709551616 := by unfold U; omega
theorem ofInt64 (x : Int) : (BitVec.ofInt 64 x).toNat = U x := by simp [BitVec.toNat_ofInt, U]
theorem wrapU (x : Int) (h1 : -9223372036854775808 ≤ x) (h2 : x ≤ 9223372036854775807) : IntKind.i64.wrap (U x : Int) = x := by
  simp only [IntKind.wrap_i64, U]; omega

theorem and_i64 (x y : Int) : bits .and .i64 x y = IntKind.i64.wrap ((U x &&& U y : Nat) : Int) := by
  show IntKind.i64.wrap ((BitVec.ofInt 64 x &&& BitVec.ofInt 64 y).toNat : Int) = _
  rw [BitVec.toNat_and, ofInt64, ofInt64]
theorem or_i64 (x y : Int) : bits .or .i64 x y = IntKind.i64.wrap ((U x ||| U y : Nat) : Int) := by
  show IntKind.i64.wrap ((BitVec.ofInt 64 x ||| BitVec.ofInt 64 y).toNat : Int) = _
  rw [BitVec.toNat_or, ofInt64, ofInt64]
theorem andNot_i64 (x y : Int) : bits .andNot .i64 x y = IntKind.i64.wrap ((U x &&& (18446744073709551615 - U y) : Nat) : Int) := by
  show IntKind.i64.wrap ((BitVec.ofInt 64 x &&& ~~~ BitVec.ofInt 64 y).toNat : Int) = _
  rw [BitVec.toNat_and, BitVec.toNat_not, ofInt64, ofInt64]

theorem nat_or_bit (i : Nat) : ∀ x : Nat, x / 2 ^ i % 2 = 0 → x ||| 2 ^ i = x + 2 ^ i := by
  intro x h
  have h1 := Nat.div_add_mod x (2 ^ (i + 1))
  have h3 : x / 2 ^ i = 2 * (x / 2 ^ (i + 1)) + x / 2 ^ i % 2 := by
    rw [Nat.pow_succ, ← Nat.div_div_eq_div_mul]; omega
  apply Nat.eq_of_testBit_eq
  intro j
  have hd := Nat.div_add_mod x (2 ^ i)
  have hlt : x % 2 ^ i < 2 ^ i := Nat.mod_lt _ (Nat.pow_pos (by decide))
  have e1 : x = 2 ^ i * (2 * (x / 2 ^ (i + 1))) + x % 2 ^ i := by
    rw [h, Nat.add_zero] at h3; rw [← h3]; exact hd.symm
  have e2 : x + 2 ^ i = 2 ^ i * (2 * (x / 2 ^ (i + 1)) + 1) + x % 2 ^ i := by
    rw [Nat.mul_add, Nat.mul_one]; omega
  rw [e2, Nat.testBit_two_pow_mul_add _ hlt, Nat.testBit_or, Nat.testBit_two_pow]
  generalize x / 2 ^ (i + 1) = q at *
  generalize x % 2 ^ i = r at *
  rw [e1, Nat.testBit_two_pow_mul_add _ hlt]
  by_cases hj : j < i
  · simp [hj]; omega
  · simp only [hj, if_false]
    by_cases hk : i = j
    · subst hk; simp
    · simp [hk]
      obtain ⟨d, rfl⟩ : ∃ d, j = i + (d + 1) := ⟨j - i - 1, by omega⟩
      rw [show i + (d + 1) - i = d + 1 by omega, Nat.testBit_succ, Nat.testBit_succ]
      congr 1; omega

/-- bit k of a number -/
def T (x : Int) (k : Nat) : Bool := (U x).testBit k
theorem T_eq (x : Int) (k : Nat) : T x k = decide (U x / 2 ^ k % 2 = 1) := Nat.testBit_eq_decide_div_mod_eq
/-- the set of one element, or none -/
def elV (i : Int) : Int := if 0 ≤ i ∧ i ≤ 61 then 2 ^ i.toNat else 0
theorem pow_le61 (n : Nat) (h : n ≤ 61) : 2 ^ n ≤ 2305843009213693952 := Nat.pow_le_pow_right (n := 2) (by omega) h
theorem U_pow (n : Nat) (h : n ≤ 61) : U (2 ^ n) = 2 ^ n := by
  have := pow_le61 n h
  have e : ((2 : Int) ^ n) = ((2 ^ n : Nat) : Int) := by simp
  rw [e]; unfold U
  generalize 2 ^ n = m at *
  omega
theorem U_el (i : Int) : U (elV i) = if 0 ≤ i ∧ i ≤ 61 then 2 ^ i.toNat else 0 := by
  unfold elV; split
  · exact U_pow _ (by omega)
  · rfl
theorem T_el (i : Int) (k : Nat) : T (elV i) k = decide (0 ≤ i ∧ i ≤ 61 ∧ (k : Int) = i) := by
  unfold T; rw [U_el]
  split
  · rw [Nat.testBit_two_pow]; rw [Bool.eq_iff_iff]; simp; omega
  · rw [Nat.zero_testBit, Bool.eq_iff_iff]; simp; omega
theorem U_wrap (n : Nat) (h : n < 18446744073709551616) : U (IntKind.i64.wrap (n : Int)) = n := by
  simp only [IntKind.wrap_i64, U]; omega
theorem wrap_rng (n : Int) : -9223372036854775808 ≤ IntKind.i64.wrap n ∧ IntKind.i64.wrap n ≤ 9223372036854775807 := by
  simp only [IntKind.wrap_i64]; omega
theorem T_or (x y : Int) (k : Nat) : T (bits .or .i64 x y) k = (T x k || T y k) := by
  unfold T; rw [or_i64, U_wrap _ (Nat.or_lt_two_pow (n := 64) (U_lt x) (U_lt y)), Nat.testBit_or]
theorem T_and (x y : Int) (k : Nat) : T (bits .and .i64 x y) k = (T x k && T y k) := by
  unfold T; rw [and_i64, U_wrap _ (Nat.and_lt_two_pow (n := 64) _ (U_lt y)), Nat.testBit_and]
theorem T_high (x : Int) (k : Nat) (h : 64 ≤ k) : T x k = false :=
  Nat.testBit_lt_two_pow (Nat.lt_of_lt_of_le (U_lt x) (Nat.pow_le_pow_right (n := 2) (by omega) h))
theorem T_andNot (x y : Int) (k : Nat) : T (bits .andNot .i64 x y) k = (T x k && !T y k) := by
  have hy := U_lt y
  unfold T; rw [andNot_i64, U_wrap _ (Nat.and_lt_two_pow (n := 64) _ (by omega)), Nat.testBit_and]
  rw [show 18446744073709551615 - U y = 2 ^ 64 - (U y + 1) by omega, Nat.testBit_two_pow_sub_succ hy]
  by_cases h : k < 64
  · simp [h]
  · have := T_high x k (by omega); unfold T at this; simp [this]

/-- whether i is an element that is in the set -/
def hasV (b i : Int) : Bool := decide (0 ≤ i ∧ i ≤ 61) && T b i.toNat
theorem and_el (b i : Int) : (bits .and .i64 b (elV i) != 0) = hasV b i := by
  rw [and_i64, U_el]; unfold hasV
  by_cases h : 0 ≤ i ∧ i ≤ 61
  · rw [if_pos h, nat_bit, T_eq]
    have hp := pow_le61 i.toNat (by omega)
    have hq : 0 < 2 ^ i.toNat := Nat.pow_pos (by decide)
    generalize 2 ^ i.toNat = P at *
    rcases Nat.mod_two_eq_zero_or_one (U b / P) with e | e
    · rw [e]; simp [IntKind.wrap_i64]
    · rw [e]
      have : IntKind.i64.wrap ((1 * P : Nat) : Int) = (P : Int) := by simp only [IntKind.wrap_i64]; omega
      rw [this]; simp [h]; omega
  · rw [if_neg h]; simp [h, IntKind.wrap_i64]
theorem has_ref (b i : Int) (h0 : 0 ≤ i) (h1 : i ≤ 61) (P : Int) (hP : P = 2 ^ i.toNat) : ((b % 18446744073709551616) / P % 2 == 1) = hasV b i := by
  unfold hasV; rw [T_eq]; subst hP
  have e : ((2 : Int) ^ i.toNat) = ((2 ^ i.toNat : Nat) : Int) := by simp
  rw [e]
  have e2 : b % 18446744073709551616 = (U b : Int) := by unfold U; omega
  rw [e2]
  have e3 : ((U b : Int) / ((2 ^ i.toNat : Nat) : Int) % 2) = ((U b / 2 ^ i.toNat % 2 : Nat) : Int) := by simp
  rw [e3, Bool.eq_iff_iff]; simp only [beq_iff_eq, Bool.and_eq_true, decide_eq_true_eq]; omega

theorem or_el (b i : Int) (h1 : -9223372036854775808 ≤ b) (h2 : b ≤ 9223372036854775807) :
    bits .or .i64 b (elV i) = if 0 ≤ i ∧ i ≤ 61 ∧ hasV b i = false then IntKind.i64.wrap ((U b : Int) + 2 ^ i.toNat) else b := by
  rw [or_i64, U_el]
  by_cases h : 0 ≤ i ∧ i ≤ 61
  · rw [if_pos h]
    by_cases hb : hasV b i = false
    · rw [if_pos ⟨h.1, h.2, hb⟩]
      have hz : U b / 2 ^ i.toNat % 2 = 0 := by
        unfold hasV at hb; rw [T_eq] at hb; simp [h] at hb; omega
      rw [nat_or_bit _ _ hz]; simp
    · rw [if_neg (by simp [hb])]
      have hz : T b i.toNat = true := by unfold hasV at hb; simp [h] at hb; exact hb
      have : U b ||| 2 ^ i.toNat = U b := by
        apply Nat.eq_of_testBit_eq; intro j
        rw [Nat.testBit_or, Nat.testBit_two_pow]
        by_cases e : i.toNat = j
        · subst e; unfold T at hz; simp [hz]
        · simp [e]
      rw [this, wrapU b h1 h2]
  · rw [if_neg h, if_neg (by omega), Nat.or_zero, wrapU b h1 h2]

theorem andNot_el (b i : Int) (h1 : -9223372036854775808 ≤ b) (h2 : b ≤ 9223372036854775807) :
    bits .andNot .i64 b (elV i) = if hasV b i = true then IntKind.i64.wrap ((U b : Int) - 2 ^ i.toNat) else b := by
  rw [andNot_i64, U_el]
  by_cases hb : hasV b i = true
  · rw [if_pos hb]
    have h : 0 ≤ i ∧ i ≤ 61 := by unfold hasV at hb; simp at hb; exact hb.1
    have hz : T b i.toNat = true := by unfold hasV at hb; simp [h] at hb; exact hb
    rw [if_pos h]
    have hp := pow_le61 i.toNat (by omega)
    have hlt := U_lt b
    have hz1 : U b / 2 ^ i.toNat % 2 = 1 := by rw [T_eq] at hz; simpa using hz
    have hle : 2 ^ i.toNat ≤ U b := by
      rcases Nat.lt_or_ge (U b) (2 ^ i.toNat) with hl | hl
      · rw [Nat.div_eq_of_lt hl] at hz1; omega
      · exact hl
    have hy : (U b - 2 ^ i.toNat) / 2 ^ i.toNat % 2 = 0 := by
      have hq : 0 < 2 ^ i.toNat := Nat.pow_pos (by decide)
      have := Nat.add_div_right (U b - 2 ^ i.toNat) hq
      rw [Nat.sub_add_cancel hle] at this; omega
    have ho := nat_or_bit _ _ hy
    rw [Nat.sub_add_cancel hle] at ho
    have : U b &&& (18446744073709551615 - 2 ^ i.toNat) = U b - 2 ^ i.toNat := by
      have hbit : (U b - 2 ^ i.toNat).testBit i.toNat = false := by rw [Nat.testBit_eq_decide_div_mod_eq]; simp [hy]
      have hy64 : U b - 2 ^ i.toNat < 2 ^ 64 := Nat.lt_of_le_of_lt (Nat.sub_le _ _) hlt
      generalize U b - 2 ^ i.toNat = y at *
      have hP : (2 ^ i.toNat : Nat) < 2 ^ 64 := by omega
      apply Nat.eq_of_testBit_eq; intro j
      rw [← ho, show 18446744073709551615 - 2 ^ i.toNat = 2 ^ 64 - (2 ^ i.toNat + 1) by omega, Nat.testBit_and, Nat.testBit_or, Nat.testBit_two_pow_sub_succ hP, Nat.testBit_two_pow]
      by_cases e : i.toNat = j
      · subst e; simp [hbit]
      · by_cases hj : j < 64
        · simp [e, hj]
        · have : y.testBit j = false := Nat.testBit_lt_two_pow (Nat.lt_of_lt_of_le hy64 (Nat.pow_le_pow_right (n := 2) (by omega) (by omega)))
          simp [e, hj, this]
    rw [this]
    have e : ((2 : Int) ^ i.toNat) = ((2 ^ i.toNat : Nat) : Int) := by simp
    rw [e]; congr 1; omega
  · rw [if_neg hb]
    have : U b &&& (18446744073709551615 - if 0 ≤ i ∧ i ≤ 61 then 2 ^ i.toNat else 0) = U b := by
      have hlt := U_lt b
      split
      · rename_i h
        have hz : T b i.toNat = false := by unfold hasV at hb; simp [h] at hb; exact hb
        have hp := pow_le61 i.toNat (by omega)
        have hP : (2 ^ i.toNat : Nat) < 2 ^ 64 := by omega
        apply Nat.eq_of_testBit_eq; intro j
        rw [show 18446744073709551615 - 2 ^ i.toNat = 2 ^ 64 - (2 ^ i.toNat + 1) by omega, Nat.testBit_and, Nat.testBit_two_pow_sub_succ hP, Nat.testBit_two_pow]
        by_cases e : i.toNat = j
        · subst e; unfold T at hz; simp [hz]
        · by_cases hj : j < 64
          · simp [e, hj]
          · have := T_high b j (by omega); unfold T at this; simp [this]
      · exact Nat.and_two_pow_sub_one_of_lt_two_pow (n := 64) hlt
    rw [this, wrapU b h1 h2]

/-! ### how many bits: the sum by masks -/
/-- how many of the first n bits are set -/
def pc : Nat → Nat → Nat
  | 0, _ => 0
  | n + 1, x => x % 2 + pc n (x / 2)
/-- the mask with m in each of n bytes -/
def msk (m : Nat) : Nat → Nat
  | 0 => 0
  | n + 1 => msk m n * 256 + m
theorem msk_succ (m n : Nat) : msk m (n + 1) = msk m n * 256 + m := rfl
theorem land_split (x y a b : Nat) (ha : a < 256) (hb : b < 256) : (x * 256 + a) &&& (y * 256 + b) = (x &&& y) * 256 + (a &&& b) := by
  have hab : a &&& b < 2 ^ 8 := Nat.and_lt_two_pow (n := 8) _ hb
  apply Nat.eq_of_testBit_eq; intro j
  rw [show x * 256 = 2 ^ 8 * x by omega, show y * 256 = 2 ^ 8 * y by omega, show (x &&& y) * 256 = 2 ^ 8 * (x &&& y) by omega]
  rw [Nat.testBit_and, Nat.testBit_two_pow_mul_add _ ha, Nat.testBit_two_pow_mul_add _ hb, Nat.testBit_two_pow_mul_add _ hab]
  split <;> simp [Nat.testBit_and]
/-- one stage: the fields of x, and those beside them, added -/
def F1 (n x : Nat) : Nat := (x / 2 &&& msk 85 n) + (x &&& msk 85 n)
def F2 (n x : Nat) : Nat := (x / 4 &&& msk 51 n) + (x &&& msk 51 n)
def F3 (n x : Nat) : Nat := (x / 16 + x) &&& msk 15 n
def f1 (b : Nat) : Nat := (b / 2 &&& 85) + (b &&& 85)
def f2 (b : Nat) : Nat := (b / 4 &&& 51) + (b &&& 51)
def f3 (b : Nat) : Nat := (b / 16 + b) &&& 15
theorem byte1 : ∀ b : Fin 256, ∀ c : Fin 2, ((c.val * 128 + b.val / 2) &&& 85) = (b.val / 2 &&& 85) := by decide +kernel
theorem byte2 : ∀ b : Fin 256, ∀ c : Fin 4, ((c.val * 64 + b.val / 4) &&& 51) = (b.val / 4 &&& 51) := by decide +kernel
theorem byteF : ∀ b : Fin 256, f1 b.val < 256 ∧ f2 (f1 b.val) < 256 ∧ f2 (f1 b.val) % 16 ≤ 4 ∧ f2 (f1 b.val) / 16 ≤ 4 ∧ f3 (f2 (f1 b.val)) = pc 8 b.val ∧ pc 8 b.val ≤ 8 := by decide +kernel
theorem byte3 : ∀ c : Fin 69, ∀ d : Fin 5, ((d.val * 16 + c.val / 16 + c.val) &&& 15) = f3 c.val := by decide +kernel
theorem F1_step (n x b : Nat) (hb : b < 256) : F1 (n + 1) (x * 256 + b) = F1 n x * 256 + f1 b := by
  unfold F1 f1; rw [msk_succ]
  have e : (x * 256 + b) / 2 = x / 2 * 256 + (x % 2 * 128 + b / 2) := by omega
  rw [e, land_split _ _ _ _ (by omega) (by omega), land_split _ _ _ _ hb (by omega)]
  have := byte1 ⟨b, hb⟩ ⟨x % 2, by omega⟩
  simp only at this
  rw [this]; omega
theorem F2_step (n x b : Nat) (hb : b < 256) : F2 (n + 1) (x * 256 + b) = F2 n x * 256 + f2 b := by
  unfold F2 f2; rw [msk_succ]
  have e : (x * 256 + b) / 4 = x / 4 * 256 + (x % 4 * 64 + b / 4) := by omega
  rw [e, land_split _ _ _ _ (by omega) (by omega), land_split _ _ _ _ hb (by omega)]
  have := byte2 ⟨b, hb⟩ ⟨x % 4, by omega⟩
  simp only at this
  rw [this]; omega
theorem F3_step (n x c : Nat) (hc : c ≤ 68) (hx : x % 16 ≤ 4) : F3 (n + 1) (x * 256 + c) = F3 n x * 256 + f3 c := by
  unfold F3; rw [msk_succ]
  have e : (x * 256 + c) / 16 + (x * 256 + c) = (x / 16 + x) * 256 + (x % 16 * 16 + c / 16 + c) := by omega
  rw [e, land_split _ _ _ _ (by omega) (by omega)]
  have := byte3 ⟨c, by omega⟩ ⟨x % 16, by omega⟩
  simp only at this
  rw [this]
/-- the bytes of a number, each of which counts its own bits -/
def cb : Nat → Nat → Nat
  | 0, _ => 0
  | n + 1, x => cb n (x / 256) * 256 + pc 8 (x % 256)
theorem F_bytes (n : Nat) : ∀ x, x < 256 ^ n → F3 n (F2 n (F1 n x)) = cb n x ∧ F2 n (F1 n x) % 16 ≤ 4 := by
  induction n with
  | zero =>
    intro x hx
    have : x = 0 := by simpa using hx
    subst this; simp [F1, F2, F3, msk, cb]
  | succ n ih =>
    intro x hx
    have hb : x % 256 < 256 := Nat.mod_lt _ (by omega)
    obtain ⟨g1, g2, g3, g4, g5, g6⟩ := byteF ⟨x % 256, hb⟩
    simp only at g1 g2 g3 g4 g5 g6
    have hx' : x / 256 < 256 ^ n := by rw [Nat.pow_succ] at hx; exact Nat.div_lt_of_lt_mul (by omega)
    obtain ⟨i1, i2⟩ := ih _ hx'
    have e : x = x / 256 * 256 + x % 256 := by omega
    have e1 : F2 (n + 1) (F1 (n + 1) x) = F2 n (F1 n (x / 256)) * 256 + f2 (f1 (x % 256)) := by
      rw [e, F1_step _ _ _ hb, F2_step _ _ _ g1, ← e]
    rw [e1]
    refine ⟨?_, by omega⟩
    rw [F3_step _ _ _ (by omega) i2, i1, g5]; rfl
theorem pc_split (n : Nat) : ∀ m x, pc (n + m) x = pc n (x % 2 ^ n) + pc m (x / 2 ^ n) := by
  induction n with
  | zero => intro m x; simp [pc]
  | succ n ih =>
    intro m x
    rw [show n + 1 + m = (n + m) + 1 by omega]
    simp only [pc]
    rw [ih, Nat.div_div_eq_div_mul, show 2 * 2 ^ n = 2 ^ (n + 1) by rw [Nat.pow_succ]; omega]
    have e1 : x % 2 ^ (n + 1) % 2 = x % 2 := Nat.mod_mod_of_dvd _ ⟨2 ^ n, by rw [Nat.pow_succ]; omega⟩
    have e2 : x % 2 ^ (n + 1) / 2 = x / 2 % 2 ^ n := by
      rw [Nat.pow_succ, Nat.mul_comm (2 ^ n) 2, Nat.mod_mul_right_div_self]
    rw [e1, e2]; omega
theorem pc8 (n x : Nat) : pc (n + 8) x = pc 8 (x % 256) + pc n (x / 256) := by rw [Nat.add_comm n 8]; exact pc_split 8 n x
theorem pc64 (x : Nat) : pc 64 x = pc 8 (x % 256) + (pc 8 (x / 256 % 256) + (pc 8 (x / 256 / 256 % 256) + (pc 8 (x / 256 / 256 / 256 % 256) + (pc 8 (x / 256 / 256 / 256 / 256 % 256) + (pc 8 (x / 256 / 256 / 256 / 256 / 256 % 256) + (pc 8 (x / 256 / 256 / 256 / 256 / 256 / 256 % 256) + pc 8 (x / 256 / 256 / 256 / 256 / 256 / 256 / 256 % 256))))))) := by
  have h64 := pc8 56 x
  have h56 := pc8 48 (x / 256)
  have h48 := pc8 40 (x / 256 / 256)
  have h40 := pc8 32 (x / 256 / 256 / 256)
  have h32 := pc8 24 (x / 256 / 256 / 256 / 256)
  have h24 := pc8 16 (x / 256 / 256 / 256 / 256 / 256)
  have h16 := pc8 8 (x / 256 / 256 / 256 / 256 / 256 / 256)
  have h8 := pc8 0 (x / 256 / 256 / 256 / 256 / 256 / 256 / 256)
  have h0 : pc 0 (x / 256 / 256 / 256 / 256 / 256 / 256 / 256 / 256) = 0 := rfl
  simp only [Nat.reduceAdd] at h64 h56 h48 h40 h32 h24 h16 h8
  omega
theorem pc8_le (x : Nat) : pc 8 (x % 256) ≤ 8 := (byteF ⟨x % 256, Nat.mod_lt _ (by omega)⟩).2.2.2.2.2
/-- eight small numbers, one in each byte: two halves added, again and again -/
theorem fold (c0 c1 c2 c3 c4 c5 c6 c7 a : Nat) (h0 : c0 ≤ 8) (h1 : c1 ≤ 8) (h2 : c2 ≤ 8) (h3 : c3 ≤ 8) (h4 : c4 ≤ 8) (h5 : c5 ≤ 8) (h6 : c6 ≤ 8) (h7 : c7 ≤ 8)
    (ha : a = ((((((c7 * 256 + c6) * 256 + c5) * 256 + c4) * 256 + c3) * 256 + c2) * 256 + c1) * 256 + c0) :
    ∃ b c d, b = a + a / 256 ∧ c = b + b / 65536 ∧ d = c + c / 4294967296 ∧ d % 128 = c0 + (c1 + (c2 + (c3 + (c4 + (c5 + (c6 + c7)))))) ∧ d < 9223372036854775808 := by
  refine ⟨_, _, _, rfl, rfl, rfl, ?_⟩
  have e1 : a / 256 = (((((c7 * 256 + c6) * 256 + c5) * 256 + c4) * 256 + c3) * 256 + c2) * 256 + c1 := by omega
  have e2 : a + a / 256 = ((((((c7 * 256 + (c6 + c7)) * 256 + (c5 + c6)) * 256 + (c4 + c5)) * 256 + (c3 + c4)) * 256 + (c2 + c3)) * 256 + (c1 + c2)) * 256 + (c0 + c1) := by omega
  generalize a + a / 256 = b at *
  have e3 : b / 65536 = (((((c7 * 256 + (c6 + c7)) * 256 + (c5 + c6)) * 256 + (c4 + c5)) * 256 + (c3 + c4)) * 256 + (c2 + c3)) := by omega
  clear e1 ha
  have e4 : b + b / 65536 = ((((((c7 * 256 + (c6 + c7)) * 256 + (c5 + c6 + c7)) * 256 + (c4 + c5 + c6 + c7)) * 256 + (c3 + c4 + c5 + c6)) * 256 + (c2 + c3 + c4 + c5)) * 256 + (c1 + c2 + c3 + c4)) * 256 + (c0 + c1 + c2 + c3) := by omega
  generalize b + b / 65536 = c at *
  clear e2 e3
  have e5 : c / 4294967296 = (((c7 * 256 + (c6 + c7)) * 256 + (c5 + c6 + c7)) * 256 + (c4 + c5 + c6 + c7)) := by omega
  omega

/-! ### the same as the program's own steps spell it -/
def s1 (x : Int) : Int := IntKind.u64.wrap (bits .and .u64 (x / 2) 6148914691236517205 + bits .and .u64 x 6148914691236517205)
def s2 (x : Int) : Int := IntKind.u64.wrap (bits .and .u64 (x / 4) 3689348814741910323 + bits .and .u64 x 3689348814741910323)
def s3 (x : Int) : Int := bits .and .u64 (IntKind.u64.wrap (x / 16 + x)) 1085102592571150095
def s4 (x : Int) : Int := IntKind.u64.wrap (x + x / 256)
def s5 (x : Int) : Int := IntKind.u64.wrap (x + x / 65536)
def s6 (x : Int) : Int := IntKind.u64.wrap (x + x / 4294967296)
theorem m85 : msk 85 8 = 6148914691236517205 := by decide
theorem m51 : msk 51 8 = 3689348814741910323 := by decide
theorem m15 : msk 15 8 = 1085102592571150095 := by decide
theorem s1_nat (x : Nat) (hx : x < 18446744073709551616) : s1 (x : Int) = (F1 8 x : Int) ∧ F1 8 x < 18446744073709551616 := by
  unfold s1 F1; rw [m85]
  have a1 : x / 2 &&& 6148914691236517205 ≤ 6148914691236517205 := Nat.and_le_right
  have a2 : x &&& 6148914691236517205 ≤ 6148914691236517205 := Nat.and_le_right
  rw [show ((x : Int) / 2) = ((x / 2 : Nat) : Int) by omega, show (6148914691236517205 : Int) = ((6148914691236517205 : Nat) : Int) from rfl, u64_and_nat _ _ (by omega) (by omega), u64_and_nat _ _ (by omega) (by omega), IntKind.wrap_u64]
  omega
theorem s2_nat (x : Nat) (hx : x < 18446744073709551616) : s2 (x : Int) = (F2 8 x : Int) ∧ F2 8 x ≤ 7378697629483820646 := by
  unfold s2 F2; rw [m51]
  have a1 : x / 4 &&& 3689348814741910323 ≤ 3689348814741910323 := Nat.and_le_right
  have a2 : x &&& 3689348814741910323 ≤ 3689348814741910323 := Nat.and_le_right
  rw [show ((x : Int) / 4) = ((x / 4 : Nat) : Int) by omega, show (3689348814741910323 : Int) = ((3689348814741910323 : Nat) : Int) from rfl, u64_and_nat _ _ (by omega) (by omega), u64_and_nat _ _ (by omega) (by omega), IntKind.wrap_u64]
  omega
theorem s3_nat (x : Nat) (hx : x ≤ 7378697629483820646) : s3 (x : Int) = (F3 8 x : Int) := by
  unfold s3 F3; rw [m15]
  rw [show IntKind.u64.wrap ((x : Int) / 16 + x) = ((x / 16 + x : Nat) : Int) by rw [IntKind.wrap_u64]; omega, show (1085102592571150095 : Int) = ((1085102592571150095 : Nat) : Int) from rfl, u64_and_nat _ _ (by omega) (by omega)]
theorem cb8 (x : Nat) : cb 8 x = ((((((pc 8 (x / 256 / 256 / 256 / 256 / 256 / 256 / 256 % 256) * 256 + pc 8 (x / 256 / 256 / 256 / 256 / 256 / 256 % 256)) * 256 + pc 8 (x / 256 / 256 / 256 / 256 / 256 % 256)) * 256 + pc 8 (x / 256 / 256 / 256 / 256 % 256)) * 256 + pc 8 (x / 256 / 256 / 256 % 256)) * 256 + pc 8 (x / 256 / 256 % 256)) * 256 + pc 8 (x / 256 % 256)) * 256 + pc 8 (x % 256) := by
  simp only [cb, Nat.zero_mul, Nat.zero_add]
theorem ones_eq (x : Nat) (hx : x < 18446744073709551616) : bits .and .i64 (IntKind.i64.wrap (s6 (s5 (s4 (s3 (s2 (s1 (x : Int)))))))) 127 = (pc 64 x : Int) := by
  obtain ⟨e1, b1⟩ := s1_nat x hx
  obtain ⟨e2, b2⟩ := s2_nat _ b1
  have e3 := s3_nat _ b2
  obtain ⟨e4, -⟩ := F_bytes 8 x (by omega)
  rw [e1, e2, e3, e4]
  obtain ⟨b, c, d, hb, hc, hd, h, hlt⟩ := fold _ _ _ _ _ _ _ _ _ (pc8_le x) (pc8_le (x / 256)) (pc8_le (x / 256 / 256)) (pc8_le (x / 256 / 256 / 256)) (pc8_le (x / 256 / 256 / 256 / 256)) (pc8_le (x / 256 / 256 / 256 / 256 / 256)) (pc8_le (x / 256 / 256 / 256 / 256 / 256 / 256)) (pc8_le (x / 256 / 256 / 256 / 256 / 256 / 256 / 256)) (cb8 x)
  rw [← pc64 x] at h
  have t4 : s4 (cb 8 x : Int) = (b : Int) := by unfold s4; rw [IntKind.wrap_u64]; omega
  have t5 : s5 (b : Int) = (c : Int) := by unfold s5; rw [IntKind.wrap_u64]; omega
  have t6 : s6 (c : Int) = (d : Int) := by unfold s6; rw [IntKind.wrap_u64]; omega
  rw [t4, t5, t6, show IntKind.i64.wrap (d : Int) = (d : Int) by rw [IntKind.wrap_i64]; omega, and_i64]
  have u1 : U (d : Int) = d := by unfold U; omega
  have u2 : U 127 = 127 := by decide
  rw [u1, u2, nat_mask7, h, IntKind.wrap_i64]
  have : pc 64 x = d % 128 := h.symm
  omega

/-! ### how many elements -/
/-- how many of 0 .. n-1 are in -/
def cnt (f : Nat → Bool) : Nat → Nat
  | 0 => 0
  | n + 1 => cnt f n + if f n then 1 else 0
theorem cnt_le (f : Nat → Bool) (n : Nat) : cnt f n ≤ n := by
  induction n with
  | zero => exact Nat.le_refl _
  | succ n ih => simp only [cnt]; split <;> omega
theorem cnt_congr (f g : Nat → Bool) (n : Nat) (h : ∀ k, k < n → f k = g k) : cnt f n = cnt g n := by
  induction n with
  | zero => rfl
  | succ n ih => simp only [cnt]; rw [ih (fun k hk => h k (by omega)), h n (by omega)]
theorem cnt_shift (f : Nat → Bool) (n : Nat) : cnt f (n + 1) = (if f 0 then 1 else 0) + cnt (fun k => f (k + 1)) n := by
  induction n with
  | zero => simp [cnt]
  | succ n ih => rw [cnt, ih]; simp only [cnt]; omega
theorem pc_cnt (n : Nat) : ∀ x, pc n x = cnt (fun k => x.testBit k) n := by
  induction n with
  | zero => intro x; rfl
  | succ n ih =>
    intro x
    rw [cnt_shift]; simp only [pc]; rw [ih]
    have e : (if x.testBit 0 = true then 1 else 0) = x % 2 := by
      rw [Nat.testBit_zero]; rcases Nat.mod_two_eq_zero_or_one x with h | h <;> simp [h]
    rw [e]
    congr 1
    exact cnt_congr _ _ _ fun k _ => by rw [Nat.testBit_succ]
/-- a set's number of elements -/
def bitsV (b : Int) : Nat := cnt (fun k => hasV b (k : Int)) 62
theorem bitsV_le (b : Int) : bitsV b ≤ 62 := cnt_le _ _
theorem hasV_nat (b : Int) (k : Nat) : hasV b (k : Int) = (decide (k ≤ 61) && T b k) := by
  unfold hasV; rw [Int.toNat_natCast]; congr 1; rw [decide_eq_decide]; omega
theorem cnt_more (f : Nat → Bool) (n m : Nat) (h : ∀ k, n ≤ k → f k = false) : cnt f (n + m) = cnt f n := by
  induction m with
  | zero => rfl
  | succ m ih => rw [show n + (m + 1) = (n + m) + 1 by omega, cnt, ih, h _ (by omega)]; simp
theorem T_mask (k : Nat) : T 4611686018427387903 k = decide (k ≤ 61) := by
  unfold T
  rw [show U 4611686018427387903 = 2 ^ 62 - 1 by decide, Nat.testBit_two_pow_sub_one, decide_eq_decide]; omega
theorem ones_mask (b : Int) : pc 64 (U (bits .and .i64 b 4611686018427387903)) = bitsV b := by
  rw [pc_cnt]; unfold bitsV
  have e : ∀ k, (U (bits .and .i64 b 4611686018427387903)).testBit k = hasV b (k : Int) := by
    intro k
    show T (bits .and .i64 b 4611686018427387903) k = _
    rw [T_and, T_mask, hasV_nat, Bool.and_comm]
  rw [cnt_congr _ _ 64 (fun k _ => e k), show (64 : Nat) = 62 + 2 from rfl]
  exact cnt_more _ 62 2 fun k hk => by rw [hasV_nat]; simp; omega

/-! ### a set with one more, and without one -/
theorem has_or (b i k : Int) : hasV (bits .or .i64 b (elV i)) k = (hasV b k || decide (0 ≤ i ∧ i ≤ 61 ∧ k = i)) := by
  unfold hasV; rw [T_or, T_el]
  rw [Bool.eq_iff_iff]; simp only [Bool.and_eq_true, Bool.or_eq_true, decide_eq_true_eq]
  constructor
  · rintro ⟨h, g | g⟩
    · exact .inl ⟨h, g⟩
    · exact .inr ⟨g.1, g.2.1, by omega⟩
  · rintro (⟨h, g⟩ | g)
    · exact ⟨h, .inl g⟩
    · exact ⟨by omega, .inr (by omega)⟩
theorem has_andNot (b i k : Int) : hasV (bits .andNot .i64 b (elV i)) k = (hasV b k && !decide (0 ≤ i ∧ i ≤ 61 ∧ k = i)) := by
  unfold hasV; rw [T_andNot, T_el]
  rw [Bool.eq_iff_iff]; simp only [Bool.and_eq_true, Bool.not_eq_true', decide_eq_true_eq, decide_eq_false_iff_not]
  constructor
  · rintro ⟨h, g, k⟩
    exact ⟨⟨h, g⟩, by omega⟩
  · rintro ⟨⟨h, g⟩, k⟩
    exact ⟨h, g, by omega⟩
theorem cnt_set (f g : Nat → Bool) (i : Nat) (hf : f i = true) (hg : g i = false) (h : ∀ k, k ≠ i → f k = g k) : ∀ n, cnt f n = cnt g n + if i < n then 1 else 0 := by
  intro n
  induction n with
  | zero => rfl
  | succ n ih =>
    simp only [cnt]; rw [ih]
    by_cases e : n = i
    · subst e; simp [hf, hg]
    · rw [h n e]; split <;> split <;> split <;> omega
theorem bits_put (b i : Int) (h0 : 0 ≤ i) (h1 : i ≤ 61) : bitsV (bits .or .i64 b (elV i)) = bitsV (bits .andNot .i64 b (elV i)) + 1 := by
  unfold bitsV
  rw [cnt_set _ (fun k => hasV (bits .andNot .i64 b (elV i)) (k : Int)) i.toNat]
  · rw [if_pos (by omega)]
  · rw [has_or]; simp; omega
  · rw [has_andNot]; simp; omega
  · intro k hk
    rw [has_or, has_andNot]
    have : ¬ (0 ≤ i ∧ i ≤ 61 ∧ (k : Int) = i) := by omega
    simp [this]

end Go.Proofs.YtkfhppbmnjmnoaaGreatDoor.B
