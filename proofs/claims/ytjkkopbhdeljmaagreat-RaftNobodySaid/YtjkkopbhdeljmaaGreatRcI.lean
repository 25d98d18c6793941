/- LAYER 11 (record): entries and records that came in. -/
import Derived.Test.YtjkkopbhdeljmaaGreatRcO
import Derived.Lib.SlBytesConst
set_option linter.unusedSimpArgs false
set_option linter.unusedVariables false
namespace Go.Proofs.YtjkkopbhdeljmaaGreat.W
open Go Go.ChangeShapes Go.WideShapes Go.ChangeAt Go.RowKit

section
variable {H : Type} {enc : TypeId × Value → H} {w : World} {base : Nat} {held : Bool}
theorem bytes_cells {fuel : Nat} {cs : List Value} {x : DataW H × List MemPlace} (h : DataW.trod enc Tryz.prog w base (fun _ => true) held fuel 22 cs = some x) : ∃ a n c l, cs = [.slice a n c] ∧ Rd w a n c l := by
  rcases open_ints Tryz.underlying22 Tryz.underlying5 (by kernel_rfl) h with ⟨hcs, _⟩ | ⟨x, l, c, zs, hcs, _, hl, hm, hz, _, hcell, hwz⟩
  · exact ⟨none, 0, 0, [], hcs, Rd_nil _⟩
  · exact ⟨_, _, _, _, hcs, Rd.of_row (.inr ⟨_, rfl, hl, hm, by simpa using hz, hcell, hwz⟩)⟩
theorem int_cells {fuel : Nat} {cs : List Value} {x : DataW H × List MemPlace} (h : DataW.trod enc Tryz.prog w base (fun _ => true) held fuel 3 cs = some x) : ∃ n, cs = [.int .i64 n] ∧ I64 n := by
  obtain ⟨n0, e0, -, w0⟩ := DataW.trod_int Tryz.underlying3 h
  exact ⟨n0, e0, bd w0⟩
set_option maxRecDepth 100000 in
theorem en_cells {fuel : Nat} {cs : List Value} {x : DataW H × List MemPlace} (h : DataW.trod enc Tryz.prog w base (fun _ => true) held fuel 69 cs = some x) : ∃ e l, cs = En.cells e ∧ EnF w e l := by
  obtain ⟨xs, n, hn, rfl, hl, hlen, hf⟩ := DataW.trod_struct Tryz.underlying69 h
  have hcl : Tryz.prog.cellsOf 69 = 4 := by kernel_rfl
  rw [hcl] at hl
  have f0 := hf 0 _ rfl
  have f1 := hf 1 _ rfl
  have f2 := hf 2 _ rfl
  have f3 := hf 3 _ rfl
  match cs, hl with
  | [v0, v1, v2, v3], _ =>
    have c1 : Tryz.prog.cellsOf 3 = 1 := by kernel_rfl
    have c2 : Tryz.prog.cellsOf 22 = 1 := by kernel_rfl
    match xs, hlen with
    | [x0, x1, x2, x3], _ =>
    simp [c1] at f0 f1 f2
    simp [c1, c2] at f3
    obtain ⟨n0, e0, w0⟩ := int_cells f0
    obtain ⟨n1, e1, w1⟩ := int_cells f1
    obtain ⟨n2, e2, w2⟩ := int_cells f2
    obtain ⟨a, n, c, l, e3, hr⟩ := bytes_cells f3
    simp at e0 e1 e2 e3
    subst e0 e1 e2 e3
    exact ⟨⟨n0, n1, n2, a, n, c⟩, l, rfl, w0, w1, w2, hr⟩
set_option maxRecDepth 100000 in
theorem rc_cells {fuel : Nat} {cs : List Value} {x : DataW H × List MemPlace} (h : DataW.trod enc Tryz.prog w base (fun _ => true) held fuel 134 cs = some x) : ∃ r l s, cs = Rc.cells r ∧ RcF w r l s := by
  obtain ⟨xs, n, hn, rfl, hl, hlen, hf⟩ := DataW.trod_struct Tryz.underlying134 h
  have hcl : Tryz.prog.cellsOf 134 = 10 := by kernel_rfl
  rw [hcl] at hl
  have f0 := hf 0 _ rfl
  have f1 := hf 1 _ rfl
  have f2 := hf 2 _ rfl
  have f3 := hf 3 _ rfl
  have f4 := hf 4 _ rfl
  have f5 := hf 5 _ rfl
  have f6 := hf 6 _ rfl
  match cs, hl with
  | [v0, v1, v2, v3, v4, v5, v6, v7, v8, v9], _ =>
    have c1 : Tryz.prog.cellsOf 3 = 1 := by kernel_rfl
    have c2 : Tryz.prog.cellsOf 22 = 1 := by kernel_rfl
    have c3 : Tryz.prog.cellsOf 69 = 4 := by kernel_rfl
    match xs, hlen with
    | [x0, x1, x2, x3, x4, x5, x6], _ =>
    simp [c1] at f0 f1 f2
    simp [c1, c3] at f3 f4 f5
    simp [c1, c2, c3] at f6
    obtain ⟨n0, e0, w0⟩ := int_cells f0
    obtain ⟨n1, e1, w1⟩ := int_cells f1
    obtain ⟨n2, e2, w2⟩ := int_cells f2
    obtain ⟨e, l, e3, he⟩ := en_cells f3
    obtain ⟨n4, e4, w4⟩ := int_cells f4
    obtain ⟨n5, e5, w5⟩ := int_cells f5
    obtain ⟨a, n, c, s, e6, hr⟩ := bytes_cells f6
    simp [En.cells] at e0 e1 e2 e3 e4 e5 e6
    obtain ⟨q0, q1, q2, q3⟩ := e3
    subst e0 e1 e2 q0 q1 q2 q3 e4 e5 e6
    exact ⟨⟨n0, n1, n2, e, n4, n5, a, n, c⟩, l, s, rfl, w0, w1, w2, he, w4, w5, hr⟩
set_option maxRecDepth 100000 in
theorem en_open {base' : Nat} {v : Value} {d : DataW H} {pl : List MemPlace} (hv : Value.okWide Tryz.prog w .any base' 69 v) (h : DataW.Trod enc Tryz.prog w base (fun _ => true) held 69 v d pl) : ∃ e : En, v = .agg e.cells.toArray ∧ ∃ l, EnF w e l := by
  obtain ⟨fuel, hf⟩ := h
  obtain ⟨e, l, hc, hfit⟩ := en_cells hf
  obtain ⟨cs, rfl, -⟩ := okWide_struct Tryz.underlying69 hv
  refine ⟨e, ?_, l, hfit⟩
  simp [Value.cells] at hc
  rw [← hc]
set_option maxRecDepth 100000 in
theorem rc_open {base' : Nat} {v : Value} {d : DataW H} {pl : List MemPlace} (hv : Value.okWide Tryz.prog w .any base' 134 v) (h : DataW.Trod enc Tryz.prog w base (fun _ => true) held 134 v d pl) : ∃ r : Rc, v = .agg r.cells.toArray ∧ ∃ l s, RcF w r l s := by
  obtain ⟨fuel, hf⟩ := h
  obtain ⟨r, l, s, hc, hfit⟩ := rc_cells hf
  obtain ⟨cs, rfl, -⟩ := okWide_struct Tryz.underlying134 hv
  refine ⟨r, ?_, l, s, hfit⟩
  simp [Value.cells] at hc
  rw [← hc]
end
end Go.Proofs.YtjkkopbhdeljmaaGreat.W
