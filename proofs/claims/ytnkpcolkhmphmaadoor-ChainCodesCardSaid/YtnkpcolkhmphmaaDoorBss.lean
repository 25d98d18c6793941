/- A SLICE OF SLICES OF BYTES that came in. -/
import Derived.Test.YtnkpcolkhmphmaaDoorMem
import Derived.Deep.Matrix
set_option linter.unusedSimpArgs false
set_option linter.unusedVariables false
namespace Go.Proofs.YtnkpcolkhmphmaaDoor.W
open Go Go.ChangeShapes Go.WideShapes Go.ChangeAt Go.RowKit

/-- A slice of slices of bytes: row r reads as the bytes X r. -/
structure Bss (w : World) (a : Option Addr) (len cap : Nat) (X : Nat → List UInt8) : Prop where
  hmax : len ≤ 9223372036854775807
  hle : len ≤ cap
  hcells : len = 0 ∨ ∃ b off, a = some ⟨b, off, none⟩ ∧ b < w.heap.size ∧ ∀ r, r < len → ∃ A n c, w.cell? ⟨b, off + r, none⟩ = some (.slice A n c) ∧ Rd w A n c (X r)

theorem bss_open {H : Type} {enc : TypeId × Value → H} {w : World} {base : Nat} {held : Bool} {a : Option Addr} {len cap : Nat} {d : DataW H} {pl : List MemPlace}
    (h : DataW.Trod enc Tryd.prog w base (fun _ => true) held 25 (.slice a len cap) d pl) : ∃ X, Bss w a len cap X := by
  obtain ⟨fuel, hf⟩ := h
  rcases Go.Deep.open_int_rows Tryd.underlying25 Tryd.underlying24 Tryd.underlying5 (by kernel_rfl) (by kernel_rfl) hf with ⟨hcs, -⟩ | ⟨x, len', cap', A, L, C, Z, hcs, -, hl, hm, -, hx⟩
  · simp [Value.cells] at hcs
    obtain ⟨rfl, rfl, rfl⟩ := hcs
    exact ⟨fun _ => [], by omega, by omega, .inl rfl⟩
  · simp [Value.cells] at hcs
    obtain ⟨rfl, rfl, rfl⟩ := hcs
    refine ⟨fun r => ((Z r).take (L r)).map fun n => UInt8.ofNat n.toNat, by unfold maxLen at hm; omega, hl, ?_⟩
    by_cases h0 : len = 0
    · exact .inl h0
    · right
      obtain ⟨b, off, spot⟩ := x
      have hspot : spot = none := by simpa [Addr.add] using World.cell?_spot (hx 0 (by omega)).1
      subst hspot
      refine ⟨b, off, rfl, ?_, fun r hr => ?_⟩
      · exact World.block_lt_of_cell? w _ (by have := (hx 0 (by omega)).1; rw [Go.WideShapes.add_plain] at this; exact this)
      · obtain ⟨c0, h1, h2, h3, h4, h5, h6⟩ := hx r (by omega)
        rw [Go.WideShapes.add_plain] at c0
        refine ⟨A r, L r, C r, c0, Rd.of_row ?_⟩
        rcases ha : A r with _ | ad
        · have hc0 := h5 ha
          exact .inl ⟨rfl, by omega, hc0, List.eq_nil_of_length_eq_zero (by omega)⟩
        · exact .inr ⟨ad, rfl, h1, h2, h3, fun i hi => (h6 ad ha).2 i (by omega), h4⟩
end Go.Proofs.YtnkpcolkhmphmaaDoor.W
