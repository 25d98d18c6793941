/- LAYER 12 (peers): the reference's Match. -/
import Derived.Test.YtjkkopbhdeljmaaGreatPeP
set_option linter.unusedSimpArgs false
set_option linter.unusedVariables false
namespace Go.Proofs.YtjkkopbhdeljmaaGreat.W
open Go Go.ChangeShapes Go.WideShapes Go.ChangeAt Go.RowKit
open Go.Proofs.YtjkkopbhdeljmaaGreat.B (hasV elV bitsV mem mem_and mem_ref cntM cnt T bits_127 cntM_le lsN lsN_len lsN_lt mlN nGe nGt Best)

/-- the members' numbers -/
def vals (c : Int) (ms : List Int) : List Int := (mlN c).map fun j => ms.getD j 0
theorem vals_len (c : Int) (ms : List Int) : (vals c ms).length = cntM c := by unfold vals; rw [List.length_map, B.mlN_len]
theorem vals_at (c : Int) (ms : List Int) (i : Nat) (h : i < cntM c) : ∃ j : Nat, j < 7 ∧ (mlI c).getD i 0 = (j : Int) ∧ ms.getD j 0 = (vals c ms).getD i 0 := by
  have hi : i < (mlN c).length := by rw [B.mlN_len]; exact h
  refine ⟨(mlN c)[i], (lsN_lt _ 7 _ (List.getElem_mem hi)).1, ?_, ?_⟩
  · show ((mlN c).map Int.ofNat).getD i 0 = _
    simp [hi]
  · unfold vals
    simp [hi]
/-- how many of the first k are at least x -/
def gk (V : List Int) (x : Int) (k : Nat) : Nat := nGe (V.take k) x
theorem gk_succ (V : List Int) (x : Int) (k : Nat) (h : k < V.length) : gk V x (k + 1) = gk V x k + if x ≤ V.getD k 0 then 1 else 0 := by
  unfold gk nGe
  rw [List.take_succ_eq_append_getElem h, List.countP_append]
  have : V.getD k 0 = V[k] := by simp [h]
  rw [this]; by_cases hm : x ≤ V[k] <;> simp [hm]
theorem gk_le (V : List Int) (x : Int) (k : Nat) : gk V x k ≤ k := Nat.le_trans List.countP_le_length (by rw [List.length_take]; omega)
theorem gk_all (V : List Int) (x : Int) (k : Nat) (h : V.length ≤ k) : gk V x k = nGe V x := by unfold gk; rw [List.take_of_length_le h]
/-- the best of the first i of those that more than half have -/
structure Bs (V : List Int) (i : Nat) (best : Int) (sm : Bool) : Prop where
  no : sm = false → best = 0 ∧ ∀ j, j < i → ¬ V.length < 2 * nGe V (V.getD j 0)
  yes : sm = true → ∃ j, j < i ∧ V.getD j 0 = best ∧ V.length < 2 * nGe V best ∧ ∀ j, j < i → V.length < 2 * nGe V (V.getD j 0) → V.getD j 0 ≤ best
theorem Bs.skip {V : List Int} {i : Nat} {best : Int} {sm : Bool} (h : Bs V i best sm) (hn : ¬ V.length < 2 * nGe V (V.getD i 0)) : Bs V (i + 1) best sm := by
  refine ⟨fun e => ⟨(h.no e).1, fun j hj => ?_⟩, fun e => ?_⟩
  · rcases Nat.lt_succ_iff_lt_or_eq.1 hj with hj | rfl
    · exact (h.no e).2 j hj
    · exact hn
  · obtain ⟨j, h1, h2, h3, h4⟩ := h.yes e
    refine ⟨j, by omega, h2, h3, fun k hk hp => ?_⟩
    rcases Nat.lt_succ_iff_lt_or_eq.1 hk with hk | rfl
    · exact h4 k hk hp
    · exact absurd hp hn
theorem Bs.low {V : List Int} {i : Nat} {best : Int} (h : Bs V i best true) (hn : V.getD i 0 ≤ best) : Bs V (i + 1) best true := by
  refine ⟨fun e => (by cases e), fun e => ?_⟩
  obtain ⟨j, h1, h2, h3, h4⟩ := h.yes e
  refine ⟨j, by omega, h2, h3, fun k hk hp => ?_⟩
  rcases Nat.lt_succ_iff_lt_or_eq.1 hk with hk | rfl
  · exact h4 k hk hp
  · exact hn
theorem Bs.set {V : List Int} {i : Nat} {best : Int} {sm : Bool} (h : Bs V i best sm) (hp : V.length < 2 * nGe V (V.getD i 0)) (hn : sm = true → best < V.getD i 0) : Bs V (i + 1) (V.getD i 0) true := by
  refine ⟨fun e => (by cases e), fun _ => ⟨i, by omega, rfl, hp, fun k hk hq => ?_⟩⟩
  rcases Nat.lt_succ_iff_lt_or_eq.1 hk with hk | rfl
  · cases hsm : sm
    · exact absurd hq ((h.no hsm).2 k hk)
    · obtain ⟨j, -, -, -, h4⟩ := h.yes hsm
      have := h4 k hk hq
      have := hn hsm
      omega
  · exact Int.le_refl _
theorem Bs.best {V : List Int} {best : Int} {sm : Bool} (h : Bs V V.length best sm) : Best V best := by
  cases hsm : sm
  · obtain ⟨rfl, h2⟩ := h.no hsm
    by_cases h0 : V = []
    · exact .inl ⟨h0, rfl⟩
    · obtain ⟨b, hb, hp⟩ := B.best_some h0
      obtain ⟨j, hj, rfl⟩ := List.getElem_of_mem hb
      exact absurd (by simpa [hj] using hp) (h2 j hj)
  · obtain ⟨j, hj, h2, h3, h4⟩ := h.yes hsm
    refine B.best_of (by rw [← h2]; simp [hj]) h3 fun x hx hp => ?_
    obtain ⟨k, hk, rfl⟩ := List.getElem_of_mem hx
    have := h4 k hk (by simpa [hk] using hp)
    simpa [hk] using this

end Go.Proofs.YtjkkopbhdeljmaaGreat.W
