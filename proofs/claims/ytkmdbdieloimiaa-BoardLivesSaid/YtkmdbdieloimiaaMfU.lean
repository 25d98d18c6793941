/- LAYER 20 (manifest): pieces and snapshots as they come in. -/
import Derived.Test.YtkmdbdieloimiaaMfO
import Derived.Test.YtkmdbdieloimiaaLsC
set_option linter.unusedSimpArgs false
set_option linter.unusedVariables false
namespace Go.Proofs.Ytkmdbdieloimiaa.W
open Go Go.ChangeShapes Go.WideShapes Go.ChangeAt Go.RowKit
open Go.Proofs.Ytkmdbdieloimiaa.P (enc dec)

section
variable {H : Type} {enc : TypeId × Value → H} {w : World} {base : Nat} {held : Bool}
set_option maxRecDepth 100000 in
theorem pc_cells {fuel : Nat} {cs : List Value} {x : DataW H × List MemPlace} (h : DataW.trod enc Try.prog w base (fun _ => true) held fuel 120 cs = some x) : ∃ c : Pc, cs = c.cells ∧ c.fit := by
  obtain ⟨xs, n, hn, rfl, hl, hlen, hf⟩ := DataW.trod_struct Try.underlying120 h
  have hcl : Try.prog.cellsOf 120 = 2 := by kernel_rfl
  rw [hcl] at hl
  have f0 := hf 0 _ rfl
  have f1 := hf 1 _ rfl
  match cs, hl with
  | [v0, v1], _ =>
    have c1 : Try.prog.cellsOf 3 = 1 := by kernel_rfl
    have c2 : Try.prog.cellsOf 9 = 1 := by kernel_rfl
    match xs, hlen with
    | [x0, x1], _ =>
    simp [c2] at f0
    simp [c1, c2] at f1
    obtain ⟨s, e0, -, w0⟩ := DataW.trod_string Try.underlying9 f0
    obtain ⟨n1, e1, -, w1⟩ := DataW.trod_int Try.underlying3 f1
    simp at e0 e1
    exact ⟨⟨s, n1⟩, by simp [Pc.cells, e0, e1], ⟨w0, bd w1⟩⟩
set_option maxRecDepth 100000 in
theorem pcs_open {a : Option Addr} {len cap : Nat} {d : DataW H} {pl : List MemPlace} (h : DataW.Trod enc Try.prog w base (fun _ => true) held 29 (.slice a len cap) d pl) : ∃ P, Ls pcE w a len cap P := by
  obtain ⟨fuel, hf⟩ := h
  obtain ⟨a', m, c, L, e, hL⟩ := ls_cells pcOk (by kernel_rfl) (fun hx => pc_cells hx) hf
  simp [Value.cells] at e
  obtain ⟨rfl, rfl, rfl⟩ := e
  exact ⟨L, hL⟩
end
end Go.Proofs.Ytkmdbdieloimiaa.W
