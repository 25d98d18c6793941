/- LAYER 11, 13: a list of entries of the call's own (EnO): append of one more; a load of cells as a run. -/
import Derived.Test.YtiopcojkdglapaaRcZ
import Derived.Test.YtiopcojkdglapaaOwn
import Derived.Test.YtiopcojkdglapaaRun
set_option linter.unusedSimpArgs false
set_option linter.unusedVariables false
namespace Go.Proofs.Ytiopcojkdglapaa.W
open Go Go.ChangeShapes Go.WideShapes Go.ChangeAt Go.RowKit

theorem zero_en (n : Nat) : (Builtin.zeroCells (Value.agg #[.int .i64 0, .int .i64 0, .int .i64 0, .slice none 0 0]).cells n).toList = flat (List.replicate n En.zero) := by
  apply List.ext_getElem?
  intro i
  by_cases hi : i < n * 4
  · obtain ⟨k, j, hk, hj, rfl⟩ : ∃ k j, k < n ∧ j < 4 ∧ i = k * 4 + j := ⟨i / 4, i % 4, by omega, by omega, by omega⟩
    rw [flat_get _ k j (by simpa using hk) hj]
    have hm : (k * 4 + j) % 4 = j := by omega
    have h1 : (List.replicate n En.zero).getD k En.zero = En.zero := by simp [hk]
    rw [h1]
    have h2 : k * 4 + j < n * 4 := hi
    rcases (show j = 0 ∨ j = 1 ∨ j = 2 ∨ j = 3 by omega) with rfl | rfl | rfl | rfl <;> simp [Builtin.zeroCells, Value.cells, En.cells, En.zero, h2, hm] <;> simp_all
  · rw [List.getElem?_eq_none (by simp [Builtin.zeroCells, Value.cells]; omega), List.getElem?_eq_none (by rw [flat_len]; simp; omega)]
theorem take_flat : ∀ (M : List En) (n : Nat), (flat M).take (n * 4) = flat (M.take n)
  | M, 0 => by simp [flat]
  | [], n + 1 => by simp [flat]
  | e :: M, n + 1 => by
    have h : e.cells.length = 4 := rfl
    simp only [flat, List.take_succ_cons]
    rw [List.take_append, List.take_of_length_le (by omega), h, show (n + 1) * 4 - 4 = n * 4 by omega, take_flat M n]
theorem cells_one (e : En) : ∀ v ∈ e.cells, v.oneCell' = true := by
  intro v hv
  simp [En.cells] at hv
  rcases hv with rfl | rfl | rfl | rfl <;> rfl
end Go.Proofs.Ytiopcojkdglapaa.W
