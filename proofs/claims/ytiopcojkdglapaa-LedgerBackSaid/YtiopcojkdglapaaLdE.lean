/- LAYER 19 (ledger): holds, ledgers and calls as they come in. -/
import Derived.Test.YtiopcojkdglapaaLdW
import Derived.Test.YtiopcojkdglapaaLsC
set_option linter.unusedSimpArgs false
set_option linter.unusedVariables false
namespace Go.Proofs.Ytiopcojkdglapaa.W
open Go Go.ChangeShapes Go.WideShapes Go.ChangeAt Go.RowKit
open Go.Proofs.Ytiopcojkdglapaa.P (enc dec)

section
variable {H : Type} {enc : TypeId × Value → H} {w : World} {base : Nat} {held : Bool}
set_option maxRecDepth 100000 in
theorem hd_cells {fuel : Nat} {cs : List Value} {x : DataW H × List MemPlace} (h : DataW.trod enc Try.prog w base (fun _ => true) held fuel 52 cs = some x) : ∃ c : Hd, cs = c.cells ∧ c.fit := by
  obtain ⟨xs, n, hn, rfl, hl, hlen, hf⟩ := DataW.trod_struct Try.underlying52 h
  have hcl : Try.prog.cellsOf 52 = 6 := by kernel_rfl
  rw [hcl] at hl
  have f0 := hf 0 _ rfl
  have f1 := hf 1 _ rfl
  have f2 := hf 2 _ rfl
  have f3 := hf 3 _ rfl
  have f4 := hf 4 _ rfl
  have f5 := hf 5 _ rfl
  match cs, hl with
  | [v0, v1, v2, v3, v4, v5], _ =>
    have c1 : Try.prog.cellsOf 3 = 1 := by kernel_rfl
    have c2 : Try.prog.cellsOf 9 = 1 := by kernel_rfl
    match xs, hlen with
    | [x0, x1, x2, x3, x4, x5], _ =>
    simp [c1] at f0 f1 f2 f3 f4
    simp [c1, c2] at f5
    obtain ⟨n0, e0, -, w0⟩ := DataW.trod_int Try.underlying3 f0
    obtain ⟨n1, e1, -, w1⟩ := DataW.trod_int Try.underlying3 f1
    obtain ⟨n2, e2, -, w2⟩ := DataW.trod_int Try.underlying3 f2
    obtain ⟨n3, e3, -, w3⟩ := DataW.trod_int Try.underlying3 f3
    obtain ⟨n4, e4, -, w4⟩ := DataW.trod_int Try.underlying3 f4
    obtain ⟨s, e5, -, w5⟩ := DataW.trod_string Try.underlying9 f5
    simp at e0 e1 e2 e3 e4 e5
    exact ⟨⟨n0, n1, n2, n3, n4, s⟩, by simp [Hd.cells, e0, e1, e2, e3, e4, e5], ⟨bd w0, bd w1, bd w2, bd w3, bd w4, w5⟩⟩
set_option maxRecDepth 100000 in
theorem ld_cells {fuel : Nat} {cs : List Value} {x : DataW H × List MemPlace} (h : DataW.trod enc Try.prog w base (fun _ => true) held fuel 50 cs = some x) : ∃ q u h' nx a n c L, cs = ldC q u h' nx a n c ∧ Ls hdE w a n c L ∧ SI64 q ∧ SI64 u ∧ SI64 h' ∧ SI64 nx := by
  obtain ⟨xs, n, hn, rfl, hl, hlen, hf⟩ := DataW.trod_struct Try.underlying50 h
  have hcl : Try.prog.cellsOf 50 = 5 := by kernel_rfl
  rw [hcl] at hl
  have f0 := hf 0 _ rfl
  have f1 := hf 1 _ rfl
  have f2 := hf 2 _ rfl
  have f3 := hf 3 _ rfl
  have f4 := hf 4 _ rfl
  match cs, hl with
  | [v0, v1, v2, v3, v4], _ =>
    have c1 : Try.prog.cellsOf 3 = 1 := by kernel_rfl
    have c2 : Try.prog.cellsOf 48 = 1 := by kernel_rfl
    match xs, hlen with
    | [x0, x1, x2, x3, x4], _ =>
    simp [c1] at f0 f1 f2 f3
    simp [c1, c2] at f4
    obtain ⟨n0, e0, -, w0⟩ := DataW.trod_int Try.underlying3 f0
    obtain ⟨n1, e1, -, w1⟩ := DataW.trod_int Try.underlying3 f1
    obtain ⟨n2, e2, -, w2⟩ := DataW.trod_int Try.underlying3 f2
    obtain ⟨n3, e3, -, w3⟩ := DataW.trod_int Try.underlying3 f3
    obtain ⟨a, m, c, L, e4, hL⟩ := ls_cells hdOk (by kernel_rfl) (fun hx => hd_cells hx) f4
    simp at e0 e1 e2 e3 e4
    exact ⟨n0, n1, n2, n3, a, m, c, L, by simp [ldC, e0, e1, e2, e3, e4], hL, bd w0, bd w1, bd w2, bd w3⟩
set_option maxRecDepth 100000 in
theorem hd_open {base' : Nat} {v : Value} {d : DataW H} {pl : List MemPlace} (hv : Value.okWide Try.prog w .any base' 52 v) (h : DataW.Trod enc Try.prog w base (fun _ => true) held 52 v d pl) : ∃ c : Hd, v = .agg c.cells.toArray ∧ c.fit := by
  obtain ⟨fuel, hf⟩ := h
  obtain ⟨c, hc, hfit⟩ := hd_cells hf
  obtain ⟨cs, rfl, -⟩ := okWide_struct Try.underlying52 hv
  refine ⟨c, ?_, hfit⟩
  simp [Value.cells] at hc
  rw [← hc]
/-- a ledger whose numbers are ints, as a value -/
def LdI (w : World) (v : Value) (l : Ld) : Prop := LdV w v l ∧ SI64 l.q ∧ SI64 l.u ∧ SI64 l.h ∧ SI64 l.n
set_option maxRecDepth 100000 in
theorem ld_open {base' : Nat} {v : Value} {d : DataW H} {pl : List MemPlace} (hv : Value.okWide Try.prog w .any base' 50 v) (h : DataW.Trod enc Try.prog w base (fun _ => true) held 50 v d pl) : ∃ l, LdI w v l := by
  obtain ⟨fuel, hf⟩ := h
  obtain ⟨q, u, h', nx, a, n, c, L, hc, hL, i1, i2, i3, i4⟩ := ld_cells hf
  obtain ⟨cs, rfl, -⟩ := okWide_struct Try.underlying50 hv
  refine ⟨⟨q, u, h', nx, L⟩, ⟨a, n, c, ?_, hL⟩, i1, i2, i3, i4⟩
  simp [Value.cells] at hc
  rw [← hc]
/-- a call, plain -/
structure Do19 where
  op : Int
  id : Int
  n : Int
  h : Hd
@[reducible] def Do19.cells (d : Do19) : List Value := [.int .i64 d.op, .int .i64 d.id, .int .i64 d.n, .int .i64 d.h.id, .int .i64 d.h.cl, .int .i64 d.h.by', .int .i64 d.h.un, .int .i64 d.h.ti, .string d.h.sp]
structure Do19.fit (d : Do19) : Prop where
  op : SI64 d.op
  id : SI64 d.id
  n : SI64 d.n
  h : d.h.fit
set_option maxRecDepth 100000 in
theorem do_cells {fuel : Nat} {cs : List Value} {x : DataW H × List MemPlace} (h : DataW.trod enc Try.prog w base (fun _ => true) held fuel 54 cs = some x) : ∃ d : Do19, cs = d.cells ∧ d.fit := by
  obtain ⟨xs, n, hn, rfl, hl, hlen, hf⟩ := DataW.trod_struct Try.underlying54 h
  have hcl : Try.prog.cellsOf 54 = 9 := by kernel_rfl
  rw [hcl] at hl
  have f0 := hf 0 _ rfl
  have f1 := hf 1 _ rfl
  have f2 := hf 2 _ rfl
  have f3 := hf 3 _ rfl
  match cs, hl with
  | [v0, v1, v2, v3, v4, v5, v6, v7, v8], _ =>
    have c1 : Try.prog.cellsOf 3 = 1 := by kernel_rfl
    have c2 : Try.prog.cellsOf 52 = 6 := by kernel_rfl
    match xs, hlen with
    | [x0, x1, x2, x3], _ =>
    simp [c1] at f0 f1 f2
    simp [c1, c2] at f3
    obtain ⟨n0, e0, -, w0⟩ := DataW.trod_int Try.underlying3 f0
    obtain ⟨n1, e1, -, w1⟩ := DataW.trod_int Try.underlying3 f1
    obtain ⟨n2, e2, -, w2⟩ := DataW.trod_int Try.underlying3 f2
    obtain ⟨c, hc, hfit⟩ := hd_cells f3
    simp [Hd.cells] at e0 e1 e2 hc
    obtain ⟨k0, k1, k2, k3, k4, k5⟩ := hc
    exact ⟨⟨n0, n1, n2, c⟩, by simp [Do19.cells, e0, e1, e2, k0, k1, k2, k3, k4, k5], ⟨bd w0, bd w1, bd w2, hfit⟩⟩
set_option maxRecDepth 100000 in
theorem do_open19 {base' : Nat} {v : Value} {d : DataW H} {pl : List MemPlace} (hv : Value.okWide Try.prog w .any base' 54 v) (h : DataW.Trod enc Try.prog w base (fun _ => true) held 54 v d pl) : ∃ c : Do19, v = .agg c.cells.toArray ∧ c.fit := by
  obtain ⟨fuel, hf⟩ := h
  obtain ⟨c, hc, hfit⟩ := do_cells hf
  obtain ⟨cs, rfl, -⟩ := okWide_struct Try.underlying54 hv
  refine ⟨c, ?_, hfit⟩
  simp [Value.cells] at hc
  rw [← hc]
end
@[reducible] def doE : El Do19 := ⟨63, 54, 9, 80, .agg #[.int .i64 0, .int .i64 0, .int .i64 0, .int .i64 0, .int .i64 0, .int .i64 0, .int .i64 0, .int .i64 0, .string ⟨#[]⟩], Do19.cells, fun _ s => s.fit⟩
theorem doOk : doE.Ok Try.prog where
  und := Try.underlying63
  info := by kernel_rfl
  zs := rfl
  pos := by decide
  len := fun _ => rfl
  one := fun s v hv => by simp at hv; rcases hv with rfl | rfl | rfl | rfl | rfl | rfl | rfl | rfl | rfl <;> rfl
  mono := fun _ _ _ h _ => h
  small := by decide
theorem do_size : (Try.prog.info? 54).map (·.size) = some 9 := by kernel_rfl
theorem do_zero : (Try.prog.info? 54).map (·.zero) = some (some (.agg (Do19.cells ⟨0, 0, 0, hdZ⟩).toArray)) := by kernel_rfl
section
variable {H : Type} {enc : TypeId × Value → H} {w : World} {base : Nat} {held : Bool}
theorem dos_open19 {a : Option Addr} {len cap : Nat} {d : DataW H} {pl : List MemPlace} (h : DataW.Trod enc Try.prog w base (fun _ => true) held 63 (.slice a len cap) d pl) : ∃ L, Ls doE w a len cap L := by
  obtain ⟨fuel, hf⟩ := h
  obtain ⟨a', n', c', L, hc, hL⟩ := ls_cells doOk (by kernel_rfl) (fun hx => do_cells hx) hf
  simp [Value.cells] at hc
  obtain ⟨rfl, rfl, rfl⟩ := hc
  exact ⟨L, hL⟩
end
end Go.Proofs.Ytiopcojkdglapaa.W
