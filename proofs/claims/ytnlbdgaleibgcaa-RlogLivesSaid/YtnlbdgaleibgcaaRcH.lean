/- LAYER 11 (record): slices.DeleteFunc with the closures of Apply. -/
import Derived.Test.YtnlbdgaleibgcaaRcM
set_option linter.unusedSimpArgs false
set_option linter.unusedVariables false
namespace Go.Proofs.Ytnlbdgaleibgcaa.W
open Go Go.ChangeShapes Go.WideShapes Go.ChangeAt Go.RowKit

theorem take_next (M : List En) (j : Nat) (q : En → Bool) (h : j < M.length) : (M.take (j + 1)).filter q = (M.take j).filter q ++ (if q (M.getD j En.zero) then [M.getD j En.zero] else []) := by
  have h1 : M.take (j + 1) = M.take j ++ [M.getD j En.zero] := by
    rw [List.take_succ_eq_append_getElem h]
    simp [List.getD_eq_getElem?_getD, h]
  rw [h1, List.filter_append]
  congr 1
  obtain ⟨x, hx⟩ : ∃ x, M.getD j En.zero = x := ⟨_, rfl⟩
  rw [hx]
  cases hq : q x <;> simp [hq]
theorem all_kept (M : List En) (k : Nat) (q : En → Bool) (hk : k ≤ M.length) (h : ∀ i, i < k → q (M.getD i En.zero) = true) : (M.take k).filter q = M.take k := by
  apply List.filter_eq_self.2
  intro x hx
  obtain ⟨i, hi, rfl⟩ := List.getElem_of_mem hx
  have hi' : i < k := by have := List.length_take_le k M; rw [List.length_take] at hi; omega
  have := h i hi'
  rw [List.getD_eq_getElem?_getD, List.getElem?_eq_getElem (by omega)] at this
  simpa using this
theorem at_drop (R M : List En) (j n : Nat) (hR : R.length = n) (hM : M.length = n) (hj : j < n) (h : R.drop j = M.drop j) : R.getD j En.zero = M.getD j En.zero := by
  have := congrArg (fun l => l[0]?) h
  simp only [List.getElem?_drop, Nat.add_zero] at this
  rw [List.getD_eq_getElem?_getD, List.getD_eq_getElem?_getD, this]
theorem drop_next {R M : List En} {j : Nat} (h : R.drop j = M.drop j) : R.drop (j + 1) = M.drop (j + 1) := by
  rw [← List.drop_drop, ← List.drop_drop, h]
theorem set_take (R : List En) (m : Nat) (e : En) (h : m < R.length) : (R.set m e).take (m + 1) = R.take m ++ [e] := by
  rw [List.take_succ_eq_append_getElem (by simpa using h)]
  simp [List.take_set_of_le]
end Go.Proofs.Ytnlbdgaleibgcaa.W
