/- PLAIN MATHEMATICS of layer 5 (adler): sums, joined and rolled on; no program. -/
import Derived.Laws.BitsAllLaws
set_option linter.unusedSimpArgs false
set_option linter.unusedVariables false
namespace Go.Proofs.Ytfcbndjciojniaa.A

def lo (s : Int) : Int := s % 65536 % 65521
def hi (s : Int) : Int := s / 65536 % 65521
def wh (l h : Int) : Int := h % 65521 * 65536 + l % 65521
def adl (l h : Int) : List UInt8 → Int × Int
  | [] => (l, h)
  | x :: t => adl ((l + (x.toNat : Int)) % 65521) ((h + (l + (x.toNat : Int)) % 65521) % 65521) t
def more (s : Int) (b : List UInt8) : Int := wh (adl (lo s) (hi s) b).1 (adl (lo s) (hi s) b).2
def cnt (n : Int) : Int := (if n < 0 then 0 else n) % 65521
def joinV (a b n : Int) : Int := wh (lo a + lo b - 1) (hi a + hi b + cnt n * (lo a - 1))
def rollV (s n x y : Int) : Int := wh (lo s - x + y) (hi s - cnt n * x + (lo s - x + y) - 1)

theorem lo_rng (s : Int) : 0 ≤ lo s ∧ lo s ≤ 65520 := by unfold lo; omega
theorem hi_rng (s : Int) : 0 ≤ hi s ∧ hi s ≤ 65520 := by unfold hi; omega
theorem cnt_rng (s : Int) : 0 ≤ cnt s ∧ cnt s ≤ 65520 := by unfold cnt; omega
theorem wh_rng (l h : Int) : 0 ≤ wh l h ∧ wh l h ≤ 4294967295 := by unfold wh; omega
theorem lo_wh (l h : Int) : lo (wh l h) = l % 65521 := by unfold lo wh; omega
theorem hi_wh (l h : Int) : hi (wh l h) = h % 65521 := by unfold hi wh; omega
theorem wh_congr {a b c d : Int} (h : a % 65521 = c % 65521) (k : b % 65521 = d % 65521) : wh a b = wh c d := by unfold wh; rw [h, k]

def s1 : List UInt8 → Int
  | [] => 0
  | x :: t => (x.toNat : Int) + s1 t
def s2 : List UInt8 → Int
  | [] => 0
  | x :: t => ((t.length : Int) + 1) * (x.toNat : Int) + s2 t
theorem s1_append (a b : List UInt8) : s1 (a ++ b) = s1 a + s1 b := by
  induction a with
  | nil => simp [s1]
  | cons x t ih => simp only [List.cons_append, s1, ih]; omega
theorem s2_append (a b : List UInt8) : s2 (a ++ b) = s2 a + (b.length : Int) * s1 a + s2 b := by
  induction a with
  | nil => simp [s1, s2]
  | cons x t ih =>
    simp only [List.cons_append, s1, s2, ih, List.length_append, Int.natCast_add, Int.add_mul, Int.mul_add]
    omega
theorem em {a b k : Int} (h : a = b + 65521 * k) : a % 65521 = b % 65521 := by subst h; omega
theorem adl_1 : ∀ (b : List UInt8) (l h : Int), (adl l h b).1 % 65521 = (l + s1 b) % 65521
  | [], l, h => by simp [adl, s1]
  | x :: t, l, h => by
    simp only [adl, s1]
    rw [adl_1 t]
    omega
theorem adl_2 : ∀ (b : List UInt8) (l h : Int), (adl l h b).2 % 65521 = (h + (b.length : Int) * l + s2 b) % 65521
  | [], l, h => by simp [adl, s2]
  | x :: t, l, h => by
    simp only [adl, s2, List.length_cons]
    rw [adl_2 t]
    generalize (x.toNat : Int) = y
    obtain ⟨q, hq⟩ : ∃ q, (l + y) % 65521 = l + y - 65521 * q := ⟨(l + y) / 65521, by omega⟩
    rw [hq]
    have e : (t.length : Int) * (l + y - 65521 * q) = (t.length : Int) * l + (t.length : Int) * y - 65521 * ((t.length : Int) * q) := by
      rw [Int.mul_sub, Int.mul_add, Int.mul_left_comm]
    rw [e, Int.natCast_add, Int.add_mul, Int.add_mul]
    generalize (t.length : Int) * l = A
    generalize (t.length : Int) * y = B
    generalize (t.length : Int) * q = C
    omega
theorem adl_rng : ∀ (b : List UInt8) (l h : Int), 0 ≤ l ∧ l ≤ 65520 → 0 ≤ h ∧ h ≤ 65520 → (0 ≤ (adl l h b).1 ∧ (adl l h b).1 ≤ 65520) ∧ (0 ≤ (adl l h b).2 ∧ (adl l h b).2 ≤ 65520)
  | [], l, h, hl, hh => ⟨hl, hh⟩
  | x :: t, l, h, hl, hh => by
    simp only [adl]
    exact adl_rng t _ _ (by omega) (by omega)
theorem more_lo (b : List UInt8) : lo (more 1 b) = (1 + s1 b) % 65521 := by
  unfold more; rw [lo_wh, adl_1]; rfl
theorem more_hi (b : List UInt8) : hi (more 1 b) = ((b.length : Int) + s2 b) % 65521 := by
  unfold more; rw [hi_wh, adl_2, show lo 1 = 1 from rfl, show hi 1 = 0 from rfl, Int.mul_one, Int.zero_add]
theorem more_eq (b : List UInt8) : more 1 b = wh (1 + s1 b) ((b.length : Int) + s2 b) := by
  unfold more
  refine wh_congr (by rw [adl_1]; rfl) ?_
  rw [adl_2, show lo 1 = 1 from rfl, show hi 1 = 0 from rfl, Int.mul_one, Int.zero_add]
theorem mul_em (a b c : Int) : (a % 65521 * (b % 65521 - c)) % 65521 = (a * (b - c)) % 65521 := by
  rw [Int.mul_emod, Int.emod_emod_of_dvd _ (Int.dvd_refl _), Int.mul_emod a]
  congr 2
  omega
/-- the joined sums of two texts are the sum of both -/
theorem join_more (a b : List UInt8) : joinV (more 1 a) (more 1 b) (b.length : Int) = more 1 (a ++ b) := by
  unfold joinV
  rw [more_lo, more_lo, more_hi, more_hi, more_eq (a ++ b)]
  refine wh_congr ?_ ?_
  · rw [s1_append]; omega
  · have h0 : ¬ ((b.length : Int) < 0) := by omega
    unfold cnt
    rw [if_neg h0, s2_append, List.length_append]
    have h := mul_em (b.length : Int) (1 + s1 a) 1
    rw [show 1 + s1 a - 1 = s1 a by omega] at h
    generalize (b.length : Int) % 65521 * ((1 + s1 a) % 65521 - 1) = X at *
    generalize (b.length : Int) * s1 a = Y at *
    omega
/-- a sum that is rolled on is the sum of what stands there then -/
theorem roll_more (x : UInt8) (t : List UInt8) (y : UInt8) : rollV (more 1 (x :: t)) ((x :: t).length : Int) (x.toNat : Int) (y.toNat : Int) = more 1 (t ++ [y]) := by
  unfold rollV
  rw [more_lo, more_hi, more_eq (t ++ [y])]
  refine wh_congr ?_ ?_
  · rw [s1_append]; simp only [s1]; omega
  · have h0 : ¬ (((x :: t).length : Int) < 0) := by omega
    unfold cnt
    rw [if_neg h0, s2_append, List.length_append]
    simp only [s1, s2, List.length_cons, List.length_nil]
    have h : (((t.length + 1 : Nat) : Int) % 65521 * (x.toNat : Int)) % 65521 = (((t.length : Int) + 1) * (x.toNat : Int)) % 65521 := by
      rw [Int.mul_emod, Int.emod_emod_of_dvd _ (Int.dvd_refl _), ← Int.mul_emod]; rfl
    generalize ((t.length + 1 : Nat) : Int) % 65521 * (x.toNat : Int) = X at *
    generalize ((t.length : Int) + 1) * (x.toNat : Int) = Y at *
    simp only [Int.zero_add, Int.one_mul, Int.natCast_add, Nat.zero_add, Int.natCast_one]
    generalize (x.toNat : Int) = u at *
    generalize (y.toNat : Int) = v at *
    omega

theorem adl_drop (l h : Int) (b : List UInt8) (k : Nat) (hk : k < b.length) : adl l h (b.drop k) = adl ((l + ((b.getD k 0).toNat : Int)) % 65521) ((h + (l + ((b.getD k 0).toNat : Int)) % 65521) % 65521) (b.drop (k + 1)) := by
  rw [List.drop_eq_getElem_cons hk]
  simp [adl, hk]
theorem wiki : more 1 [87, 105, 107, 105, 112, 101, 100, 105, 97] = 300286872 := by decide +kernel
theorem more_nil : more 1 [] = 1 := by decide +kernel

end Go.Proofs.Ytfcbndjciojniaa.A
