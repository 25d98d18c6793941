/- PLAIN MATHEMATICS of checked sums: no program. CONTRACTS of layer 1 (nums), the third part: sums of lists; awake. -/
import Derived.WalkKit
import Derived.Test.YtkfhppbmnjmnoaaGreatDoorNumsW
set_option linter.unusedSimpArgs false
set_option linter.unusedVariables false
namespace Go.Proofs.YtkfhppbmnjmnoaaGreatDoor.S
/-- the sum, on from acc: the number and the error -/
def sumG (most acc : Int) : List Int → Int × Int
  | [] => (acc, 0)
  | n :: l => if n < 0 ∨ 9223372036854775807 < acc + n ∨ most < acc + n then (0, 8) else sumG most (acc + n) l
def total : List Int → Int
  | [] => 0
  | n :: l => n + total l
theorem total_nonneg (l : List Int) (h : ∀ n ∈ l, 0 ≤ n) : 0 ≤ total l := by
  induction l with
  | nil => exact Int.le_refl _
  | cons n l ih =>
    have h1 := h n (by simp)
    have h2 := ih (fun m hm => h m (by simp [hm]))
    simp only [total]; omega
theorem total_append (l m : List Int) : total (l ++ m) = total l + total m := by
  induction l with
  | nil => simp [total]
  | cons n l ih => simp only [List.cons_append, total, ih]; omega
theorem total_reverse (l : List Int) : total l.reverse = total l := by
  induction l with
  | nil => rfl
  | cons n l ih => rw [List.reverse_cons, total_append, ih]; simp only [total]; omega
/-- a sum is OK where none is below 0 and the whole keeps its limits -/
theorem sumG_ok (most : Int) (l : List Int) : ∀ acc, 0 ≤ acc → (∀ n ∈ l, 0 ≤ n) → (l = [] ∨ (acc + total l ≤ 9223372036854775807 ∧ acc + total l ≤ most)) → sumG most acc l = (acc + total l, 0) := by
  induction l with
  | nil => intro acc _ _ _; simp [sumG, total]
  | cons n l ih =>
    intro acc ha hn ht
    have h1 := hn n (by simp)
    have hl : ∀ m ∈ l, 0 ≤ m := fun m hm => hn m (by simp [hm])
    have h2 := total_nonneg l hl
    have ht' : acc + (n + total l) ≤ 9223372036854775807 ∧ acc + (n + total l) ≤ most := by
      rcases ht with h | h
      · cases h
      · exact h
    simp only [sumG, total]
    rw [if_neg (by omega), ih (acc + n) (by omega) hl (.inr (by omega))]
    congr 1; omega
theorem sumG_bad (most : Int) (l : List Int) : ∀ acc, 0 ≤ acc → ¬ ((∀ n ∈ l, 0 ≤ n) ∧ (l = [] ∨ (acc + total l ≤ 9223372036854775807 ∧ acc + total l ≤ most))) → sumG most acc l = (0, 8) := by
  induction l with
  | nil => intro acc _ h; exact absurd ⟨by simp, .inl rfl⟩ h
  | cons n l ih =>
    intro acc ha h
    simp only [sumG]
    split
    · rfl
    · rename_i hc
      apply ih (acc + n) (by omega)
      rintro ⟨h1, h2⟩
      apply h
      refine ⟨?_, .inr ?_⟩
      · intro m hm
        rcases List.mem_cons.1 hm with e | e
        · omega
        · exact h1 m e
      · simp only [total]
        rcases h2 with e | e
        · subst e; simp only [total]; omega
        · omega
/-- the sum does not hang on the order -/
theorem sumG_reverse (most : Int) (l : List Int) : sumG most 0 l.reverse = sumG most 0 l := by
  by_cases h : (∀ n ∈ l, 0 ≤ n) ∧ (l = [] ∨ (0 + total l ≤ 9223372036854775807 ∧ 0 + total l ≤ most))
  · rw [sumG_ok most l 0 (by omega) h.1 h.2, sumG_ok most l.reverse 0 (by omega) (by simpa using h.1) (by rw [total_reverse]; simpa using h.2), total_reverse]
  · rw [sumG_bad most l 0 (by omega) h, sumG_bad most l.reverse 0 (by omega) (by rw [total_reverse]; simpa using h)]
theorem sumG_rng (most : Int) (l : List Int) : ∀ acc, 0 ≤ acc → acc ≤ 9223372036854775807 → 0 ≤ (sumG most acc l).1 ∧ (sumG most acc l).1 ≤ 9223372036854775807 := by
  induction l with
  | nil => intro acc h1 h2; exact ⟨h1, h2⟩
  | cons n l ih =>
    intro acc h1 h2
    simp only [sumG]
    split
    · decide
    · exact ih _ (by omega) (by omega)
theorem drop_getD (l : List Int) (k : Nat) (h : k < l.length) : l.drop k = l.getD k 0 :: l.drop (k + 1) := by
  rw [List.drop_eq_getElem_cons h]; simp [h]
end Go.Proofs.YtkfhppbmnjmnoaaGreatDoor.S

namespace Go.Proofs.YtkfhppbmnjmnoaaGreatDoor.W
open Go.ChangeShapes Go.WideShapes Go.ChangeAt Go.RowKit
open Go.Proofs.YtkfhppbmnjmnoaaGreatDoor.B Go.Proofs.YtkfhppbmnjmnoaaGreatDoor.S






end Go.Proofs.YtkfhppbmnjmnoaaGreatDoor.W
