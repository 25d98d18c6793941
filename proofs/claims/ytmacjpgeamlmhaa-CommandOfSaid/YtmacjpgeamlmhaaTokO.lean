/- LAYER 8 (token): a token that came in. -/
import Derived.Test.YtmacjpgeamlmhaaCavO
set_option linter.unusedSimpArgs false
set_option linter.unusedVariables false
namespace Go.Proofs.Ytmacjpgeamlmhaa.W
open Go.ChangeShapes Go.WideShapes Go.ChangeAt Go.RowKit

structure Tk where
  lane : Int
  id : Int
  epoch : Int
  a : Option Addr
  n : Nat
  c : Nat
  g : ByteArray
def Tk.cells (t : Tk) : List Value := [.int .i64 t.lane, .int .i64 t.id, .int .i64 t.epoch, .slice t.a t.n t.c, .string t.g]
def Tk.val (t : Tk) : Value := .agg t.cells.toArray
/-- a token that reads in a world -/
def TkW (w : World) (t : Tk) : Prop := ((-9223372036854775808 ≤ t.lane ∧ t.lane ≤ 9223372036854775807) ∧ (-9223372036854775808 ≤ t.id ∧ t.id ≤ 9223372036854775807) ∧ (-9223372036854775808 ≤ t.epoch ∧ t.epoch ≤ 9223372036854775807) ∧ t.g.size ≤ maxLen) ∧ ∃ L, Cvs w t.a t.n t.c L

section
variable {H : Type} {enc : TypeId × Value → H} {w : World} {base : Nat} {spare : Nat → Bool} {held : Bool}
set_option maxRecDepth 100000 in
theorem tk_cells {fuel : Nat} {cs : List Value} {x : DataW H × List MemPlace} (h : DataW.trod enc Try.prog w base spare held fuel 46 cs = some x) : ∃ t : Tk, cs = t.cells ∧ TkW w t := by
  obtain ⟨xs, n, hn, rfl, hl, hlen, hf⟩ := DataW.trod_struct Try.underlying46 h
  have hcl : Try.prog.cellsOf 46 = 5 := by kernel_rfl
  rw [hcl] at hl
  have f0 := hf 0 _ rfl
  have f1 := hf 1 _ rfl
  have f2 := hf 2 _ rfl
  have f3 := hf 3 _ rfl
  have f4 := hf 4 _ rfl
  match cs, hl with
  | [v0, v1, v2, v3, v4], _ =>
    have c1 : Try.prog.cellsOf 3 = 1 := by kernel_rfl
    have c2 : Try.prog.cellsOf 9 = 1 := by kernel_rfl
    have c3 : Try.prog.cellsOf 22 = 1 := by kernel_rfl
    match xs, hlen with
    | [x0, x1, x2, x3, x4], _ =>
    simp [c1] at f0 f1 f2
    simp [c1, c3] at f3
    simp [c1, c2, c3] at f4
    obtain ⟨n0, e0, -, w0⟩ := DataW.trod_int Try.underlying3 f0
    obtain ⟨n1, e1, -, w1⟩ := DataW.trod_int Try.underlying3 f1
    obtain ⟨n2, e2, -, w2⟩ := DataW.trod_int Try.underlying3 f2
    obtain ⟨s, e4, -, w4⟩ := DataW.trod_string Try.underlying9 f4
    simp at e0 e1 e2 e4
    obtain ⟨a, ln, cp, e3⟩ : ∃ a ln cp, v3 = .slice a ln cp := by
      rcases Go.Deep.open_slice Try.underlying22 f3 with ⟨hcs, -⟩ | ⟨x, len', cap', m, n', D, P0, hcs, -⟩
      · exact ⟨_, _, _, by simpa using hcs⟩
      · exact ⟨_, _, _, by simpa using hcs⟩
    subst e3
    obtain ⟨L, hL⟩ := cvs_open (H := H) (enc := enc) (w := w) (base := base) (spare := spare) (held := held) (d := x3.1) (pl := x3.2) ⟨_, f3⟩
    exact ⟨⟨n0, n1, n2, a, ln, cp, s⟩, by simp [Tk.cells, e0, e1, e2, e4], ⟨bd w0, bd w1, bd w2, w4⟩, L, hL⟩
set_option maxRecDepth 100000 in
theorem tk_open {base' : Nat} {v : Value} {d : DataW H} {pl : List MemPlace} (hv : Value.okWide Try.prog w .any base' 46 v) (h : DataW.Trod enc Try.prog w base spare held 46 v d pl) : ∃ t : Tk, v = t.val ∧ TkW w t := by
  obtain ⟨fuel, hf⟩ := h
  obtain ⟨c, hc, hfit⟩ := tk_cells hf
  obtain ⟨cs, rfl, -⟩ := okWide_struct Try.underlying46 hv
  refine ⟨c, ?_, hfit⟩
  simp [Value.cells] at hc
  unfold Tk.val
  congr 1
  apply Array.ext'
  rw [hc]
end
end Go.Proofs.Ytmacjpgeamlmhaa.W
