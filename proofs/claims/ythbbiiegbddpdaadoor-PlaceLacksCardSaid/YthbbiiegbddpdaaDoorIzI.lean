/- slices.Insert at a list of ints of one's own. -/
import Derived.Test.YthbbiiegbddpdaaDoorIz
import Derived.Test.YthbbiiegbddpdaaDoorIns
import Derived.Laws.Externs
import Derived.Shelf.Spec.SlicesInsert
set_option linter.unusedSimpArgs false
set_option linter.unusedVariables false
namespace Go.Proofs.YthbbiiegbddpdaaDoor.W
open Go Go.ChangeShapes Go.WideShapes Go.ChangeAt Go.RowKit
open Go.Proofs (step_copy_runI)

/-- all blocks but that of v are as they were -/
def Kp (v : Value) (w w' : World) : Prop := ∀ k, k < w.heap.size → v.ownBlock ≠ some k → w'.heap[k]? = w.heap[k]?
theorem Kp.of_grown {v : Value} {w w' : World} (h : w.grownBy w' v.ownBlock) : Kp v w w' := fun k hk hn => h.block k hk (fun e => hn e.symm)
theorem LsO.keep {α : Type} {E : El α} {w w' : World} {base : Nat} {v : Value} {L : List α} (h : LsO E w base v L) (hk : ∀ g, v.ownBlock = some g → w'.heap[g]? = w.heap[g]?) : LsO E w' base v L := by
  obtain ⟨h1, h2⟩ := h
  refine ⟨h1, ?_⟩
  rcases h2 with h2 | ⟨g, cap, cur, rfl, hg, hh, r⟩
  · exact .inl h2
  · exact .inr ⟨g, cap, cur, rfl, hg, (hk g rfl).trans hh, r⟩
theorem Ls.of_rowI {w : World} {g n c : Nat} {L : List Int} {R : List Value} (hr : Row w g 3 R) (hn : L.length = n) (hc : n ≤ c) (hm : c ≤ maxLen) (ht : R.take (n * 1) = flatE intE L) (hf : ∀ x ∈ L, SI64 x) : Ls intE w (some ⟨g, 0, none⟩) n c L := by
  refine ⟨hn, hc, by unfold maxLen at hm; omega, hf, (fun h => by cases h), .inr ⟨g, 0, rfl, hr.lt, fun i x hi j v hj => ?_⟩⟩
  have hj3 : j < 1 := (List.getElem?_eq_some_iff.1 hj).1
  have hil : i < L.length := (List.getElem?_eq_some_iff.1 hi).1
  have e := flatE_at intOk L i j x hi hj3
  rw [Nat.zero_add, hr.cellV]
  rw [hj, ← ht, List.getElem?_take, if_pos (show i * intE.k + j < n * 1 by show i * 1 + j < n * 1; omega)] at e
  exact e
theorem LsO.of_rowI {w : World} {base g n c : Nat} {L : List Int} {R : List Value} (hr : Row w g 3 R) (hg : base ≤ g) (hn : L.length = n) (hc : n ≤ c) (hm : c ≤ maxLen) (hl : R.length = c * 1) (ht : R.take (n * 1) = flatE intE L) : LsO intE w base (.slice (some ⟨g, 0, none⟩) n c) L := by
  subst hn
  exact ⟨by rw [flatE_len intOk], .inr ⟨g, c, R.toArray, rfl, hg, hr, hc, hm, by simpa using hl, by simpa using ht⟩⟩
end Go.Proofs.YthbbiiegbddpdaaDoor.W
