/- A SLICE OF STRINGS that came in reads as a list. -/
import Derived.Test.YtkfhppbmnjmnoaaGreatDoorStr
import Derived.Test.YtkfhppbmnjmnoaaGreatDoorLsC
set_option linter.unusedSimpArgs false
set_option linter.unusedVariables false
namespace Go.Proofs.YtkfhppbmnjmnoaaGreatDoor.W
open Go Go.ChangeShapes Go.WideShapes Go.ChangeAt Go.RowKit

section
variable {H : Type} {enc : TypeId × Value → H} {w : World} {base : Nat} {held : Bool}
theorem str_cells {fuel : Nat} {cs : List Value} {x : DataW H × List MemPlace} (h : DataW.trod enc Tryz.prog w base (fun _ => true) held fuel 9 cs = some x) : ∃ y : ByteArray, cs = strE.cells y ∧ strE.fit w y := by
  obtain ⟨s, e, -, hs⟩ := DataW.trod_string Tryz.underlying9 h
  exact ⟨s, e, hs⟩
theorem strs_open {a : Option Addr} {len cap : Nat} {d : DataW H} {pl : List MemPlace} (h : DataW.Trod enc Tryz.prog w base (fun _ => true) held 32 (.slice a len cap) d pl) : ∃ L, Ls strE w a len cap L := by
  obtain ⟨fuel, hf⟩ := h
  obtain ⟨a', n', c', L, hc, hL⟩ := ls_cells strOk (by kernel_rfl) (fun hx => str_cells hx) hf
  simp [Value.cells] at hc
  obtain ⟨rfl, rfl, rfl⟩ := hc
  exact ⟨L, hL⟩
end
end Go.Proofs.YtkfhppbmnjmnoaaGreatDoor.W
