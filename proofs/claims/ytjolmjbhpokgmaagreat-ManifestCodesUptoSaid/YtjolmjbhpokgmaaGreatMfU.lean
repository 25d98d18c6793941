/- LAYER 20 (manifest): pieces and snapshots as they come in. -/
import Derived.Test.YtjolmjbhpokgmaaGreatMfO
import Derived.Test.YtjolmjbhpokgmaaGreatLsC
set_option linter.unusedSimpArgs false
set_option linter.unusedVariables false
namespace Go.Proofs.YtjolmjbhpokgmaaGreat.W
open Go Go.ChangeShapes Go.WideShapes Go.ChangeAt Go.RowKit
open Go.Proofs.YtjolmjbhpokgmaaGreat.P (enc dec)

section
variable {H : Type} {enc : TypeId × Value → H} {w : World} {base : Nat} {held : Bool}
set_option maxRecDepth 100000 in
theorem pc_cells {fuel : Nat} {cs : List Value} {x : DataW H × List MemPlace} (h : DataW.trod enc Tryz.prog w base (fun _ => true) held fuel 47 cs = some x) : ∃ c : Pc, cs = c.cells ∧ c.fit := by
  obtain ⟨xs, n, hn, rfl, hl, hlen, hf⟩ := DataW.trod_struct Tryz.underlying47 h
  have hcl : Tryz.prog.cellsOf 47 = 2 := by kernel_rfl
  rw [hcl] at hl
  have f0 := hf 0 _ rfl
  have f1 := hf 1 _ rfl
  match cs, hl with
  | [v0, v1], _ =>
    have c1 : Tryz.prog.cellsOf 3 = 1 := by kernel_rfl
    have c2 : Tryz.prog.cellsOf 9 = 1 := by kernel_rfl
    match xs, hlen with
    | [x0, x1], _ =>
    simp [c2] at f0
    simp [c1, c2] at f1
    obtain ⟨s, e0, -, w0⟩ := DataW.trod_string Tryz.underlying9 f0
    obtain ⟨n1, e1, -, w1⟩ := DataW.trod_int Tryz.underlying3 f1
    simp at e0 e1
    exact ⟨⟨s, n1⟩, by simp [Pc.cells, e0, e1], ⟨w0, bd w1⟩⟩
set_option maxRecDepth 100000 in
theorem sn_cells {fuel : Nat} {cs : List Value} {x : DataW H × List MemPlace} (h : DataW.trod enc Tryz.prog w base (fun _ => true) held fuel 45 cs = some x) : ∃ y : SnX, cs = y.cells ∧ y.fit w := by
  obtain ⟨xs, n, hn, rfl, hl, hlen, hf⟩ := DataW.trod_struct Tryz.underlying45 h
  have hcl : Tryz.prog.cellsOf 45 = 6 := by kernel_rfl
  rw [hcl] at hl
  have f0 := hf 0 _ rfl
  have f1 := hf 1 _ rfl
  have f2 := hf 2 _ rfl
  have f3 := hf 3 _ rfl
  have f4 := hf 4 _ rfl
  have f5 := hf 5 _ rfl
  match cs, hl with
  | [v0, v1, v2, v3, v4, v5], _ =>
    have c1 : Tryz.prog.cellsOf 3 = 1 := by kernel_rfl
    have c2 : Tryz.prog.cellsOf 9 = 1 := by kernel_rfl
    have c3 : Tryz.prog.cellsOf 23 = 1 := by kernel_rfl
    match xs, hlen with
    | [x0, x1, x2, x3, x4, x5], _ =>
    simp [c2] at f0 f1
    simp [c1, c2] at f2 f3 f4
    simp [c1, c2, c3] at f5
    obtain ⟨s0, e0, -, w0⟩ := DataW.trod_string Tryz.underlying9 f0
    obtain ⟨s1, e1, -, w1⟩ := DataW.trod_string Tryz.underlying9 f1
    obtain ⟨n2, e2, -, w2⟩ := DataW.trod_int Tryz.underlying3 f2
    obtain ⟨n3, e3, -, w3⟩ := DataW.trod_int Tryz.underlying3 f3
    obtain ⟨n4, e4, -, w4⟩ := DataW.trod_int Tryz.underlying3 f4
    obtain ⟨a, m, c, L, e5, hL⟩ := ls_cells pcOk (by kernel_rfl) (fun hx => pc_cells hx) f5
    simp at e0 e1 e2 e3 e4 e5
    exact ⟨⟨⟨s0, s1, n2, n3, n4, L⟩, a, m, c⟩, by simp [SnX.cells, snC, e0, e1, e2, e3, e4, e5], ⟨w0, w1, bd w2, bd w3, bd w4, hL⟩⟩
set_option maxRecDepth 100000 in
theorem sns_open {a : Option Addr} {len cap : Nat} {d : DataW H} {pl : List MemPlace} (h : DataW.Trod enc Tryz.prog w base (fun _ => true) held 22 (.slice a len cap) d pl) : ∃ X, Ls snE w a len cap X := by
  obtain ⟨fuel, hf⟩ := h
  obtain ⟨a', m, c, L, e, hL⟩ := ls_cells snOk (by kernel_rfl) (fun hx => sn_cells hx) hf
  simp [Value.cells] at e
  obtain ⟨rfl, rfl, rfl⟩ := e
  exact ⟨L, hL⟩
set_option maxRecDepth 100000 in
theorem pcs_open {a : Option Addr} {len cap : Nat} {d : DataW H} {pl : List MemPlace} (h : DataW.Trod enc Tryz.prog w base (fun _ => true) held 23 (.slice a len cap) d pl) : ∃ P, Ls pcE w a len cap P := by
  obtain ⟨fuel, hf⟩ := h
  obtain ⟨a', m, c, L, e, hL⟩ := ls_cells pcOk (by kernel_rfl) (fun hx => pc_cells hx) hf
  simp [Value.cells] at e
  obtain ⟨rfl, rfl, rfl⟩ := e
  exact ⟨L, hL⟩
end
end Go.Proofs.YtjolmjbhpokgmaaGreat.W
