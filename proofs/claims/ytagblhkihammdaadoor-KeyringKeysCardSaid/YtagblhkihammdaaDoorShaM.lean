/- THE LAW ShaParts: in whatever parts a text is written, its sum is the same. -/
import Derived.Test.YtagblhkihammdaaDoorShaK
import Derived.Deep.Matrix
namespace Go.Proofs.YtagblhkihammdaaDoor.W
open Go.ChangeShapes Go.WideShapes Go.ChangeAt Go.RowKit
open Go.Proofs.YtagblhkihammdaaDoor.P

/-- A slice of slices of bytes: row r reads as the bytes X r. -/
structure Bss (w : World) (a : Option Addr) (len cap : Nat) (X : Nat → List UInt8) : Prop where
  hmax : len ≤ 9223372036854775807
  hcells : len = 0 ∨ ∃ b off, a = some ⟨b, off, none⟩ ∧ b < w.heap.size ∧ ∀ r, r < len → ∃ A n c, w.cell? ⟨b, off + r, none⟩ = some (.slice A n c) ∧ Rd w A n c (X r)


theorem Fr.gw {w w' : World} {base g : Nat} {v : Value} {l : List UInt8} (h : Fr w base v l) (k : Gw g w w') (hg : g < base) : Fr w' base v l := by
  have hlt := World.ownsRow.lt h
  obtain ⟨h1, h2⟩ := h
  refine ⟨h1, ?_⟩
  rcases h2 with h2 | ⟨q, cap, cur, rfl, hq, hh, r⟩
  · exact .inl h2
  · exact .inr ⟨q, cap, cur, rfl, hq, by rw [k.block q (hlt q rfl).2 (by omega)]; exact hh, r⟩
/-- a store into a block that is newer than the world w -/
theorem Gw.newer {g q : Nat} {w w' w'' : World} (h : Gw g w w') (hu : Upd w' w'' q) (hq : w.heap.size ≤ q) : Gw g w w'' :=
  ⟨hu.os.trans h.os, hu.tape.trans h.tape, hu.output.trans h.output, by rw [hu.size]; exact h.size, fun k hk hg => by rw [hu.block k (by omega)]; exact h.block k hk hg⟩


end Go.Proofs.YtagblhkihammdaaDoor.W
