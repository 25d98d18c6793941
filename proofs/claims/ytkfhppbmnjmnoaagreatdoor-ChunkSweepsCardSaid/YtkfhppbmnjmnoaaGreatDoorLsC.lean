/- LISTS OF STRUCTS as they come in. No number of a dump. (XSpO holds the same lemma: never import both.) -/
import Derived.Test.YtkfhppbmnjmnoaaGreatDoorLs
import Derived.Test.YtkfhppbmnjmnoaaGreatDoorCavO
set_option linter.unusedSimpArgs false
set_option linter.unusedVariables false
namespace Go.Proofs.YtkfhppbmnjmnoaaGreatDoor.W
open Go Go.ChangeShapes Go.WideShapes Go.ChangeAt Go.RowKit

section
variable {H : Type} {enc : TypeId × Value → H} {w : World} {base : Nat} {held : Bool}
/-- a slice of structs that came in reads as a list -/
theorem ls_cells {α : Type} {P : Program} {E : El α} (hE : E.Ok P) (hc : P.cellsOf E.eT = E.k) (hel : ∀ {fuel : Nat} {cs : List Value} {x : DataW H × List MemPlace}, DataW.trod enc P w base (fun _ => true) held fuel E.eT cs = some x → ∃ y, cs = E.cells y ∧ E.fit w y)
    {fuel : Nat} {cs : List Value} {d : DataW H × List MemPlace} (h : DataW.trod enc P w base (fun _ => true) held fuel E.sT cs = some d) : ∃ a n c L, cs = [.slice a n c] ∧ Ls E w a n c L := by
  rcases Go.Deep.open_slice hE.und h with ⟨hcs, -⟩ | ⟨x, len, cap, m, n, D, P0, hcs, -, hl, hm, hmm, -, hx⟩
  · exact ⟨none, 0, 0, [], hcs, Ls.nil w⟩
  · refine ⟨some x, len, cap, ?_⟩
    have hml : len ≤ m := by rw [hmm]; split <;> omega
    have each : ∀ i, i < len → ∃ p : α, E.fit w p ∧ ∀ j v, (E.cells p)[j]? = some v → w.cell? ((x.add (i * E.k)).add j) = some v := by
      intro i hi
      obtain ⟨cs', h1, h2⟩ := hx i (by omega)
      obtain ⟨y, rfl, hfit⟩ := hel h2
      rw [hc] at h1
      obtain ⟨_, hlen, hcell⟩ := World.cells?_some h1
      refine ⟨y, hfit, fun j v hj => ?_⟩
      have hjk : j < E.k := by rw [← hE.len y]; exact (List.getElem?_eq_some_iff.1 hj).1
      rw [hcell j hjk, hj]
    rcases Nat.eq_zero_or_pos len with h0 | hpos
    · subst h0
      exact ⟨[], hcs, rfl, by omega, by unfold maxLen at hm; omega, by simp, (fun h => by cases h), .inl rfl⟩
    obtain ⟨p0, -⟩ := each 0 hpos
    haveI : Inhabited α := ⟨p0⟩
    obtain ⟨q, hq⟩ := Go.Deep.choose_lt each
    refine ⟨(List.range len).map q, hcs, by simp, hl, by unfold maxLen at hm; omega, ?_, (fun h => by cases h), ?_⟩
    · intro c hc
      obtain ⟨i, hi, rfl⟩ := List.mem_map.1 hc
      exact (hq i (by simpa using hi)).1
    · right
      obtain ⟨b, off, spot⟩ := x
      have hp0 := hE.pos
      have hl0 := hE.len (q 0)
      obtain ⟨v0, hv0⟩ : ∃ v0, (E.cells (q 0))[0]? = some v0 := ⟨(E.cells (q 0))[0]'(by omega), by simp⟩
      have hcell0 := (hq 0 (by omega)).2 0 v0 hv0
      have hspot : spot = none := by simpa [Addr.add] using World.cell?_spot hcell0
      subst hspot
      refine ⟨b, off, rfl, ?_, fun i y hi j v hj => ?_⟩
      · rw [Go.WideShapes.add_plain, Go.WideShapes.add_plain] at hcell0
        exact World.block_lt_of_cell? w _ hcell0
      · have hil : i < len := by have := (List.getElem?_eq_some_iff.1 hi).1; simpa using this
        have hy : y = q i := by simp [hil] at hi; exact hi.symm
        subst hy
        have h1 := (hq i hil).2 j v hj
        rw [Go.WideShapes.add_plain, Go.WideShapes.add_plain] at h1
        exact h1
end
end Go.Proofs.YtkfhppbmnjmnoaaGreatDoor.W
