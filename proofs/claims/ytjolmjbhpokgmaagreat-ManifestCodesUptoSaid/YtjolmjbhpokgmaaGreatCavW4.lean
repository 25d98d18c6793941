/- CONTRACTS of layer 6 (caveat): the reference's Check. -/
import Derived.Test.YtjolmjbhpokgmaaGreatCavW
set_option linter.unusedSimpArgs false
set_option linter.unusedVariables false
namespace Go.Proofs.YtjolmjbhpokgmaaGreat.W
open Go.ChangeShapes Go.WideShapes Go.ChangeAt Go.RowKit

theorem rmost_eq (k : Int) (h : partsV k = 1) : rmostV k = mostV k := by
  rcases parts_any k with ⟨rfl, e1, e2⟩ | ⟨rfl, e1, e2⟩ | ⟨rfl, e1, e2⟩ | ⟨rfl, e1, e2⟩ | ⟨rfl, e1, e2⟩ | ⟨rfl, e1, e2⟩ | ⟨hk, n1, n2, n3, n4, n5, n6, e1, e2⟩ <;> first | rfl | omega
theorem most_two (k : Int) (h : partsV k = 2) : mostV k = 0 := by
  rcases parts_any k with ⟨rfl, e1, e2⟩ | ⟨rfl, e1, e2⟩ | ⟨rfl, e1, e2⟩ | ⟨rfl, e1, e2⟩ | ⟨rfl, e1, e2⟩ | ⟨rfl, e1, e2⟩ | ⟨hk, n1, n2, n3, n4, n5, n6, e1, e2⟩ <;> omega
theorem parts_zero (k : Int) (h : partsV k = 0) : k < 1 ∨ 6 < k := by
  rcases parts_any k with ⟨rfl, e1, e2⟩ | ⟨rfl, e1, e2⟩ | ⟨rfl, e1, e2⟩ | ⟨rfl, e1, e2⟩ | ⟨rfl, e1, e2⟩ | ⟨rfl, e1, e2⟩ | ⟨hk, n1, n2, n3, n4, n5, n6, e1, e2⟩ <;> omega
theorem parts_in (k : Int) (h : partsV k ≠ 0) : 1 ≤ k ∧ k ≤ 6 := by
  rcases parts_any k with ⟨rfl, e1, e2⟩ | ⟨rfl, e1, e2⟩ | ⟨rfl, e1, e2⟩ | ⟨rfl, e1, e2⟩ | ⟨rfl, e1, e2⟩ | ⟨rfl, e1, e2⟩ | ⟨hk, n1, n2, n3, n4, n5, n6, e1, e2⟩ <;> omega


end Go.Proofs.YtjolmjbhpokgmaaGreat.W
