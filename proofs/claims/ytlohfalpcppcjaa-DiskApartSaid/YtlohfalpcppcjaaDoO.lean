/- LAYER 9 (disk): calls that came in. -/
import Derived.Test.YtlohfalpcppcjaaDkR
import Derived.ChangeSame
import Derived.Deep.Slices
set_option linter.unusedSimpArgs false
set_option linter.unusedVariables false
namespace Go.Proofs.Ytlohfalpcppcjaa.W
open Go Go.ChangeShapes Go.WideShapes Go.ChangeAt Go.RowKit

/-- a call: which, its numbers, its bytes' slice, its keeps' slice -/
structure DoC where
  op : Int
  slot : Int
  n : Int
  b : Sv
  k : Sv
instance : Inhabited DoC := ⟨⟨0, 0, 0, default, default⟩⟩
def DoC.cells (d : DoC) : List Value := [.int .i64 d.op, .int .i64 d.slot, .int .i64 d.n, d.b.val, d.k.val]
def DoC.fit (d : DoC) : Prop := (-9223372036854775808 ≤ d.op ∧ d.op ≤ 9223372036854775807) ∧ (-9223372036854775808 ≤ d.slot ∧ d.slot ≤ 9223372036854775807) ∧ (-9223372036854775808 ≤ d.n ∧ d.n ≤ 9223372036854775807)
/-- it reads in a world -/
def DoW (w : World) (d : DoC) : Prop := d.fit ∧ (∃ zs, IsRow .u8 w d.b.1 d.b.2.1 d.b.2.2 zs) ∧ (∃ zs, IsRow .i64 w d.k.1 d.k.2.1 d.k.2.2 zs)

section
variable {H : Type} {enc : TypeId × Value → H} {w : World} {base : Nat} {held : Bool}
theorem row_in {k : IntKind} {t e : TypeId} {fuel : Nat} {v : Value} {x : DataW H × List MemPlace} (ht : Try.prog.underlying t = some (.slice e)) (he : Try.prog.underlying e = some (.int k)) (hc : Try.prog.cellsOf e = 1)
    (h : DataW.trod enc Try.prog w base (fun _ => true) held fuel t [v] = some x) : ∃ s : Sv, v = s.val ∧ ∃ zs, IsRow k w s.1 s.2.1 s.2.2 zs := by
  rcases open_ints ht he hc h with ⟨hcs, _⟩ | ⟨y, l, c, zs, hcs, _, hl, hm, hz, _, hcell, hwz⟩
  · exact ⟨(none, 0, 0), by simpa [Sv.val] using hcs, [], .inl ⟨rfl, rfl, rfl, rfl⟩⟩
  · exact ⟨(some y, l, c), by simpa [Sv.val] using hcs, zs, .inr ⟨_, rfl, hl, hm, by simpa using hz, hcell, hwz⟩⟩
set_option maxRecDepth 100000 in
theorem do_cells {fuel : Nat} {cs : List Value} {x : DataW H × List MemPlace} (h : DataW.trod enc Try.prog w base (fun _ => true) held fuel 33 cs = some x) : ∃ d : DoC, cs = d.cells ∧ DoW w d := by
  obtain ⟨xs, n, hn, rfl, hl, hlen, hf⟩ := DataW.trod_struct Try.underlying33 h
  have hcl : Try.prog.cellsOf 33 = 5 := by kernel_rfl
  rw [hcl] at hl
  have f0 := hf 0 _ rfl
  have f1 := hf 1 _ rfl
  have f2 := hf 2 _ rfl
  have f3 := hf 3 _ rfl
  have f4 := hf 4 _ rfl
  match cs, hl with
  | [v0, v1, v2, v3, v4], _ =>
    have c1 : Try.prog.cellsOf 3 = 1 := by kernel_rfl
    have c2 : Try.prog.cellsOf 30 = 1 := by kernel_rfl
    have c3 : Try.prog.cellsOf 31 = 1 := by kernel_rfl
    match xs, hlen with
    | [x0, x1, x2, x3, x4], _ =>
    simp [c1] at f0 f1 f2
    simp [c1, c2] at f3
    simp [c1, c2, c3] at f4
    obtain ⟨n0, e0, -, w0⟩ := DataW.trod_int Try.underlying3 f0
    obtain ⟨n1, e1, -, w1⟩ := DataW.trod_int Try.underlying3 f1
    obtain ⟨n2, e2, -, w2⟩ := DataW.trod_int Try.underlying3 f2
    simp at e0 e1 e2
    obtain ⟨s3, rfl, h3⟩ := row_in Try.underlying30 Try.underlying5 (by kernel_rfl) f3
    obtain ⟨s4, rfl, h4⟩ := row_in Try.underlying31 Try.underlying3 (by kernel_rfl) f4
    exact ⟨⟨n0, n1, n2, s3, s4⟩, by simp [DoC.cells, e0, e1, e2], ⟨bd w0, bd w1, bd w2⟩, h3, h4⟩
end
/-- a slice of calls that reads as a list -/
structure Dos (w : World) (a : Option Addr) (len cap : Nat) (D : List DoC) : Prop where
  hlen : D.length = len
  hle : len ≤ cap
  hmax : cap ≤ 9223372036854775807
  hfit : ∀ d ∈ D, DoW w d
  hnil : a = none → cap = 0
  hcells : len = 0 ∨ ∃ b off, a = some ⟨b, off, none⟩ ∧ b < w.heap.size ∧ ∀ i, i < len → ∀ j v, (D.getD i default).cells[j]? = some v → w.cell? ⟨b, off + i * 5 + j, none⟩ = some v
set_option maxRecDepth 100000 in
theorem dos_open {H : Type} {enc : TypeId × Value → H} {w : World} {base : Nat} {held : Bool} {a : Option Addr} {len cap : Nat} {d : DataW H} {pl : List MemPlace}
    (h : DataW.Trod enc Try.prog w base (fun _ => true) held 22 (.slice a len cap) d pl) : ∃ D, Dos w a len cap D := by
  obtain ⟨fuel, hf⟩ := h
  rcases Go.Deep.open_slice Try.underlying22 hf with ⟨hcs, -⟩ | ⟨x, len', cap', m, n, D, P0, hcs, -, hl, hm, hmm, -, hx⟩
  · simp [Value.cells] at hcs
    obtain ⟨rfl, rfl, rfl⟩ := hcs
    exact ⟨[], rfl, by omega, by omega, by simp, fun _ => rfl, .inl rfl⟩
  · simp [Value.cells] at hcs
    obtain ⟨rfl, rfl, rfl⟩ := hcs
    have hml : len ≤ m := by rw [hmm]; split <;> omega
    have hcl : Try.prog.cellsOf 33 = 5 := by kernel_rfl
    have each : ∀ i, i < len → ∃ c : DoC, DoW w c ∧ ∀ j v, c.cells[j]? = some v → w.cell? ((x.add (i * 5)).add j) = some v := by
      intro i hi
      obtain ⟨cs, h1, h2⟩ := hx i (by omega)
      obtain ⟨c, rfl, hfit⟩ := do_cells h2
      rw [hcl] at h1
      obtain ⟨_, hlen, hcell⟩ := World.cells?_some h1
      refine ⟨c, hfit, fun j v hj => ?_⟩
      have hj3 : j < 5 := by have := (List.getElem?_eq_some_iff.1 hj).1; simpa [DoC.cells] using this
      rw [hcell j hj3, hj]
    obtain ⟨q, hq⟩ := Go.Deep.choose_lt each
    refine ⟨(List.range len).map q, by simp, hl, by unfold maxLen at hm; omega, ?_, (fun h => by cases h), ?_⟩
    · intro c hc
      obtain ⟨i, hi, rfl⟩ := List.mem_map.1 hc
      exact (hq i (by simpa using hi)).1
    · by_cases h0 : len = 0
      · exact .inl h0
      · right
        obtain ⟨b, off, spot⟩ := x
        have hspot : spot = none := by simpa [Addr.add] using World.cell?_spot ((hq 0 (by omega)).2 0 _ rfl)
        subst hspot
        refine ⟨b, off, rfl, ?_, fun i hi j v hj => ?_⟩
        · exact World.block_lt_of_cell? w _ (by have := (hq 0 (by omega)).2 0 _ rfl; rw [Go.WideShapes.add_plain, Go.WideShapes.add_plain] at this; exact this)
        · have hj' : (q i).cells[j]? = some v := by
            rw [← hj]; congr 2; simp [hi]
          have h1 := (hq i hi).2 j v hj'
          rw [Go.WideShapes.add_plain, Go.WideShapes.add_plain] at h1
          exact h1
end Go.Proofs.Ytlohfalpcppcjaa.W
