/- LAYER 23 (command): a command that came in. -/
import Derived.Test.YtmacjpgeamlmhaaCmP
import Derived.Test.YtmacjpgeamlmhaaMfU
set_option linter.unusedSimpArgs false
set_option linter.unusedVariables false
namespace Go.Proofs.Ytmacjpgeamlmhaa.W
open Go Go.ChangeShapes Go.WideShapes Go.ChangeAt Go.RowKit

@[reducible] def CmX.val (x : CmX) : Value := .agg x.cells.toArray
section
variable {H : Type} {enc : TypeId × Value → H} {w : World} {base : Nat} {held : Bool}
set_option maxRecDepth 100000 in
set_option maxHeartbeats 4000000 in
theorem cm_cells {fuel : Nat} {cs : List Value} {x : DataW H × List MemPlace} (h : DataW.trod enc Try.prog w base (fun _ => true) held fuel 25 cs = some x) : ∃ y : CmX, cs = y.cells ∧ y.fit w := by
  obtain ⟨xs, n, hn, rfl, hl, hlen, hf⟩ := DataW.trod_struct Try.underlying25 h
  have hcl : Try.prog.cellsOf 25 = 12 := by kernel_rfl
  rw [hcl] at hl
  have f0 := hf 0 _ rfl
  have f1 := hf 1 _ rfl
  have f2 := hf 2 _ rfl
  have f3 := hf 3 _ rfl
  have f4 := hf 4 _ rfl
  have f5 := hf 5 _ rfl
  have f6 := hf 6 _ rfl
  have f7 := hf 7 _ rfl
  have f8 := hf 8 _ rfl
  have f9 := hf 9 _ rfl
  have f10 := hf 10 _ rfl
  have f11 := hf 11 _ rfl
  match cs, hl with
  | [v0, v1, v2, v3, v4, v5, v6, v7, v8, v9, v10, v11], _ =>
    have c1 : Try.prog.cellsOf 3 = 1 := by kernel_rfl
    have c2 : Try.prog.cellsOf 9 = 1 := by kernel_rfl
    have c3 : Try.prog.cellsOf 22 = 1 := by kernel_rfl
    have c4 : Try.prog.cellsOf 23 = 1 := by kernel_rfl
    match xs, hlen with
    | [x0, x1, x2, x3, x4, x5, x6, x7, x8, x9, x10, x11], _ =>
    simp [c1] at f0
    simp [c1] at f1
    simp [c1] at f2
    simp [c1] at f3
    simp [c1] at f4
    simp [c1, c3] at f5
    simp [c1, c2, c3] at f6
    simp [c1, c2, c3] at f7
    simp [c1, c2, c3] at f8
    simp [c1, c2, c3] at f9
    simp [c1, c2, c3] at f10
    simp [c1, c2, c3, c4] at f11
    obtain ⟨n0, e0, -, w0⟩ := DataW.trod_int Try.underlying3 f0
    obtain ⟨n1, e1, -, w1⟩ := DataW.trod_int Try.underlying3 f1
    obtain ⟨n2, e2, -, w2⟩ := DataW.trod_int Try.underlying3 f2
    obtain ⟨n3, e3, -, w3⟩ := DataW.trod_int Try.underlying3 f3
    obtain ⟨n4, e4, -, w4⟩ := DataW.trod_int Try.underlying3 f4
    obtain ⟨va, vn, vc, V, e5, hV⟩ := ls_cells cvOk (by kernel_rfl) (fun hx => cv_cells hx) f5
    obtain ⟨n6, e6, -, w6⟩ := DataW.trod_string Try.underlying9 f6
    obtain ⟨n7, e7, -, w7⟩ := DataW.trod_string Try.underlying9 f7
    obtain ⟨n8, e8, -, w8⟩ := DataW.trod_int Try.underlying3 f8
    obtain ⟨n9, e9, -, w9⟩ := DataW.trod_int Try.underlying3 f9
    obtain ⟨n10, e10, -, w10⟩ := DataW.trod_int Try.underlying3 f10
    obtain ⟨pa, pn, pc, P, e11, hP⟩ := ls_cells pcOk (by kernel_rfl) (fun hx => pc_cells hx) f11
    simp at e0 e1 e2 e3 e4 e5 e6 e7 e8 e9 e10 e11
    exact ⟨⟨⟨n0, n1, n2, n3, n4, V, n6, n7, n8, n9, n10, P⟩, va, vn, vc, pa, pn, pc⟩, by simp [CmX.cells, cmC, e0, e1, e2, e3, e4, e5, e6, e7, e8, e9, e10, e11], ⟨bd w0, bd w1, bd w2, bd w3, bd w4, hV.cvs, w6, w7, bd w8, bd w9, bd w10, hP⟩⟩
set_option maxRecDepth 100000 in
theorem cm_open {base' : Nat} {v : Value} {d : DataW H} {pl : List MemPlace} (hv : Value.okWide Try.prog w .any base' 25 v) (h : DataW.Trod enc Try.prog w base (fun _ => true) held 25 v d pl) : ∃ x : CmX, v = x.val ∧ x.fit w := by
  obtain ⟨fuel, hf⟩ := h
  obtain ⟨c, hc, hfit⟩ := cm_cells hf
  obtain ⟨cs, rfl, -⟩ := okWide_struct Try.underlying25 hv
  refine ⟨c, ?_, hfit⟩
  simp [Value.cells] at hc
  unfold CmX.val
  congr 1
  apply Array.ext'
  rw [hc]
end
end Go.Proofs.Ytmacjpgeamlmhaa.W
