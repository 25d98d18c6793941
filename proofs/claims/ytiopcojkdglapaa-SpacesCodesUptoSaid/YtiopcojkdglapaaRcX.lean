/- LAYER 11 (record), plain: a row of entries. -/
import Derived.Test.YtiopcojkdglapaaRcT
set_option linter.unusedSimpArgs false
set_option linter.unusedVariables false
namespace Go.Proofs.Ytiopcojkdglapaa.W
open Go Go.ChangeShapes Go.WideShapes Go.ChangeAt Go.RowKit

instance : Inhabited En := ⟨En.zero⟩
/-- the cells of entries one behind the other -/
def flat : List En → List Value
  | [] => []
  | e :: M => e.cells ++ flat M
theorem flat_len : ∀ M : List En, (flat M).length = M.length * 4
  | [] => rfl
  | e :: M => by simp [flat, En.cells, flat_len M]; omega
theorem flat_app : ∀ M N : List En, flat (M ++ N) = flat M ++ flat N
  | [], N => rfl
  | e :: M, N => by simp [flat, flat_app M N]
theorem flat_get : ∀ (M : List En) (k j : Nat), k < M.length → j < 4 → (flat M)[k * 4 + j]? = (M.getD k En.zero).cells[j]?
  | [], k, j, h, _ => by simp at h
  | e :: M, 0, j, _, hj => by
    have : j < e.cells.length := hj
    simp only [flat, List.getD_cons_zero, Nat.zero_mul, Nat.zero_add]
    rw [List.getElem?_append_left this]
  | e :: M, k + 1, j, h, hj => by
    have ih := flat_get M k j (by simpa using h) hj
    simp only [flat, List.getD_cons_succ]
    rw [List.getElem?_append_right (by simp [En.cells]; omega), ← ih]
    congr 1
    simp [En.cells]; omega
theorem splice_flat : ∀ (M : List En) (k : Nat) (e : En), k < M.length → splice (flat M) (k * 4) e.cells = flat (M.set k e)
  | [], k, e, h => by simp at h
  | x :: M, 0, e, _ => by
    simp only [splice, flat, List.set_cons_zero, Nat.zero_mul, List.take_zero, List.nil_append]
    have h1 : e.cells.length = 4 := rfl
    have h2 : x.cells.length = 4 := rfl
    rw [h1, Nat.zero_add, List.drop_append_of_le_length (by omega), List.drop_of_length_le (by omega), List.nil_append]
  | x :: M, k + 1, e, h => by
    have ih := splice_flat M k e (by simpa using h)
    simp only [flat, List.set_cons_succ]
    rw [← ih]
    unfold splice
    have h2 : x.cells.length = 4 := rfl
    rw [List.take_append, List.take_of_length_le (by omega), List.drop_append, List.drop_of_length_le (by omega), h2, show (k + 1) * 4 - 4 = k * 4 by omega, show (k + 1) * 4 + e.cells.length - 4 = k * 4 + e.cells.length by omega]
    simp
theorem NB_flat : ∀ M : List En, NB (flat M)
  | [] => by intro x hx; simp [flat] at hx
  | e :: M => by
    intro x hx
    simp only [flat, List.mem_append] at hx
    rcases hx with h | h
    · exact NB_en _ _ _ _ _ _ x h
    · exact NB_flat M x h
theorem set_step (M : List En) (k : Nat) (e : En) (n : Nat) (z : En) (h : M.length = k) : (M ++ List.replicate (n + 1) z).set k e = (M ++ [e]) ++ List.replicate n z := by
  subst h
  rw [List.set_append]
  simp [List.replicate_succ]
theorem made_en (n : Nat) : (madeCells #[.int .i64 0, .int .i64 0, .int .i64 0, .slice none 0 0] (n * 4)).toList = flat (List.replicate n En.zero) := by
  apply List.ext_getElem?
  intro i
  by_cases hi : i < n * 4
  · obtain ⟨k, j, hk, hj, rfl⟩ : ∃ k j, k < n ∧ j < 4 ∧ i = k * 4 + j := ⟨i / 4, i % 4, by omega, by omega, by omega⟩
    rw [flat_get _ k j (by simpa using hk) hj]
    have hm : (k * 4 + j) % 4 = j := by omega
    have h1 : (List.replicate n En.zero).getD k En.zero = En.zero := by simp [hk]
    rw [h1]
    have h2 : k * 4 + j < n * 4 := hi
    rcases (show j = 0 ∨ j = 1 ∨ j = 2 ∨ j = 3 by omega) with rfl | rfl | rfl | rfl <;> simp [madeCells, En.cells, En.zero, h2, hm] <;> simp_all
  · rw [List.getElem?_eq_none (by simp [size_madeCells]; omega), List.getElem?_eq_none (by rw [flat_len]; simp; omega)]
/-- an entry without its place -/
def pe (p : En × List UInt8) : Int × Int × Int × List UInt8 := (p.1.ix, p.1.tm, p.1.kd, p.2)
theorem take_pe {L L' : List (En × List UInt8)} {k : Nat} {p : En × List UInt8} (h : L'.map pe = (L.take k).map pe) (hk : k < L.length) (hp : pe p = pe (L.getD k Ez)) : (L' ++ [p]).map pe = (L.take (k + 1)).map pe := by
  have h1 : L.take (k + 1) = L.take k ++ [L.getD k Ez] := by
    rw [List.take_succ_eq_append_getElem hk]
    simp [List.getD_eq_getElem?_getD, hk]
  rw [h1]
  simp [h, hp]
end Go.Proofs.Ytiopcojkdglapaa.W
