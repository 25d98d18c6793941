/- LAYER 11 (record): saved states, lists of entries and of records that came in. -/
import Derived.Test.YtjkkopbhdeljmaaGreatRcI
import Derived.Deep.Slices
set_option linter.unusedSimpArgs false
set_option linter.unusedVariables false
namespace Go.Proofs.YtjkkopbhdeljmaaGreat.W
open Go Go.ChangeShapes Go.WideShapes Go.ChangeAt Go.RowKit

def Ez : En × List UInt8 := (En.zero, [])
instance : Inhabited (En × List UInt8) := ⟨Ez⟩
/-- a slice of entries reads as a list: each with its bytes -/
structure Ents (w : World) (a : Option Addr) (len cap : Nat) (L : List (En × List UInt8)) : Prop where
  hlen : L.length = len
  hle : len ≤ cap
  hmax : cap ≤ 9223372036854775807
  hfit : ∀ p ∈ L, EnF w p.1 p.2
  hnil : a = none → cap = 0
  hcells : len = 0 ∨ ∃ b off, a = some ⟨b, off, none⟩ ∧ b < w.heap.size ∧ ∀ i, i < len → ∀ j v, (L.getD i Ez).1.cells[j]? = some v → w.cell? ⟨b, off + i * 4 + j, none⟩ = some v
theorem Ents.mono {w w' : World} {a : Option Addr} {len cap : Nat} {L : List (En × List UInt8)} (h : Ents w a len cap L) (hb : Below w.heap.size w w') : Ents w' a len cap L := by
  refine ⟨h.hlen, h.hle, h.hmax, fun p hp => (h.hfit p hp).mono hb, h.hnil, ?_⟩
  rcases h.hcells with h0 | ⟨b, off, rfl, hlt, hc⟩
  · exact .inl h0
  · right
    refine ⟨b, off, rfl, Nat.lt_of_lt_of_le hlt hb.size, fun i hi j v hj => ?_⟩
    rw [hb.cell (p := ⟨b, off + i * 4 + j, none⟩) hlt]; exact hc i hi j v hj
theorem Ents.nil (w : World) : Ents w none 0 0 [] := ⟨rfl, by omega, by omega, by simp, fun _ => rfl, .inl rfl⟩
/-- a saved state, as it is handed over -/
structure Sv where
  t : Int
  v : Int
  b : Int
  bt : Int
  f : Int
  a : Option Addr
  n : Nat
  c : Nat
  ea : Option Addr
  en : Nat
  ec : Nat
def Sv.cells (s : Sv) : List Value := [.int .i64 s.t, .int .i64 s.v, .int .i64 s.b, .int .i64 s.bt, .int .i64 s.f, .slice s.a s.n s.c, .slice s.ea s.en s.ec]
structure SvF (w : World) (s : Sv) (d : List UInt8) (L : List (En × List UInt8)) : Prop where
  t : I64 s.t
  v : I64 s.v
  b : I64 s.b
  bt : I64 s.bt
  f : I64 s.f
  rd : Rd w s.a s.n s.c d
  es : Ents w s.ea s.en s.ec L
theorem SvF.mono {w w' : World} {s : Sv} {d : List UInt8} {L : List (En × List UInt8)} (h : SvF w s d L) (hb : Below w.heap.size w w') : SvF w' s d L := ⟨h.t, h.v, h.b, h.bt, h.f, h.rd.mono hb, h.es.mono hb⟩
theorem Row.q7 {w : World} {g : Nat} {t : TypeId} {a0 a1 a2 a3 a4 a5 a6 : Value} (h : Row w g t [a0, a1, a2, a3, a4, a5, a6]) :
    w.cell? ⟨g, 0, none⟩ = some a0 ∧ w.cell? ⟨g, 1, none⟩ = some a1 ∧ w.cell? ⟨g, 2, none⟩ = some a2 ∧ w.cell? ⟨g, 3, none⟩ = some a3 ∧ w.cell? ⟨g, 4, none⟩ = some a4 ∧ w.cell? ⟨g, 5, none⟩ = some a5 ∧ w.cell? ⟨g, 6, none⟩ = some a6 := by
  refine ⟨?_, ?_, ?_, ?_, ?_, ?_, ?_⟩ <;> (rw [h.cellV]; rfl)
theorem sv_size : (Tryz.prog.info? 25).map (·.size) = some 7 := by kernel_rfl
def Rcz : Rc × List UInt8 × List UInt8 := (⟨0, 0, 0, En.zero, 0, 0, none, 0, 0⟩, [], [])
instance : Inhabited (Rc × List UInt8 × List UInt8) := ⟨Rcz⟩
/-- a slice of records reads as a list: each with its entry's and its snapshot's bytes -/
structure Rcs (w : World) (a : Option Addr) (len cap : Nat) (L : List (Rc × List UInt8 × List UInt8)) : Prop where
  hlen : L.length = len
  hmax : len ≤ 9223372036854775807
  hfit : ∀ p ∈ L, RcF w p.1 p.2.1 p.2.2
  hcells : len = 0 ∨ ∃ b off, a = some ⟨b, off, none⟩ ∧ b < w.heap.size ∧ ∀ i, i < len → ∀ j v, (L.getD i Rcz).1.cells[j]? = some v → w.cell? ⟨b, off + i * 10 + j, none⟩ = some v
theorem Rcs.mono {w w' : World} {a : Option Addr} {len cap : Nat} {L : List (Rc × List UInt8 × List UInt8)} (h : Rcs w a len cap L) (hb : Below w.heap.size w w') : Rcs w' a len cap L := by
  refine ⟨h.hlen, h.hmax, fun p hp => (h.hfit p hp).mono hb, ?_⟩
  rcases h.hcells with h0 | ⟨b, off, rfl, hlt, hc⟩
  · exact .inl h0
  · right
    refine ⟨b, off, rfl, Nat.lt_of_lt_of_le hlt hb.size, fun i hi j v hj => ?_⟩
    rw [hb.cell (p := ⟨b, off + i * 10 + j, none⟩) hlt]; exact hc i hi j v hj

section
variable {H : Type} {enc : TypeId × Value → H} {w : World} {base : Nat} {held : Bool}
set_option maxRecDepth 100000 in
theorem ens_cells {fuel : Nat} {cs : List Value} {d : DataW H × List MemPlace} (h : DataW.trod enc Tryz.prog w base (fun _ => true) held fuel 23 cs = some d) : ∃ a n c L, cs = [.slice a n c] ∧ Ents w a n c L := by
  rcases Go.Deep.open_slice Tryz.underlying23 h with ⟨hcs, -⟩ | ⟨x, len, cap, m, n, D, P0, hcs, -, hl, hm, hmm, -, hx⟩
  · exact ⟨none, 0, 0, [], hcs, Ents.nil w⟩
  · refine ⟨some x, len, cap, ?_⟩
    have hml : len ≤ m := by rw [hmm]; split <;> omega
    have hcl : Tryz.prog.cellsOf 69 = 4 := by kernel_rfl
    have each : ∀ i, i < len → ∃ p : En × List UInt8, EnF w p.1 p.2 ∧ ∀ j v, p.1.cells[j]? = some v → w.cell? ((x.add (i * 4)).add j) = some v := by
      intro i hi
      obtain ⟨cs', h1, h2⟩ := hx i (by omega)
      obtain ⟨e, l, rfl, hfit⟩ := en_cells h2
      rw [hcl] at h1
      obtain ⟨_, hlen, hcell⟩ := World.cells?_some h1
      refine ⟨(e, l), hfit, fun j v hj => ?_⟩
      have hj3 : j < 4 := by have := (List.getElem?_eq_some_iff.1 hj).1; simpa [En.cells] using this
      rw [hcell j hj3, hj]
    obtain ⟨q, hq⟩ := Go.Deep.choose_lt each
    refine ⟨(List.range len).map q, hcs, by simp, hl, by unfold maxLen at hm; omega, ?_, (fun h => by cases h), ?_⟩
    · intro c hc
      obtain ⟨i, hi, rfl⟩ := List.mem_map.1 hc
      exact (hq i (by simpa using hi)).1
    · by_cases h0 : len = 0
      · exact .inl h0
      · right
        obtain ⟨b, off, spot⟩ := x
        have hspot : spot = none := by simpa [Addr.add] using World.cell?_spot ((hq 0 (by omega)).2 0 _ rfl)
        subst hspot
        refine ⟨b, off, rfl, ?_, fun i hi j v hj => ?_⟩
        · exact World.block_lt_of_cell? w _ (by have := (hq 0 (by omega)).2 0 _ rfl; rw [Go.WideShapes.add_plain, Go.WideShapes.add_plain] at this; exact this)
        · have hj' : (q i).1.cells[j]? = some v := by
            rw [← hj]; congr 2; simp [hi]
          have h1 := (hq i hi).2 j v hj'
          rw [Go.WideShapes.add_plain, Go.WideShapes.add_plain] at h1
          exact h1
set_option maxRecDepth 100000 in
theorem rcs_cells {fuel : Nat} {cs : List Value} {d : DataW H × List MemPlace} (h : DataW.trod enc Tryz.prog w base (fun _ => true) held fuel 40 cs = some d) : ∃ a n c L, cs = [.slice a n c] ∧ Rcs w a n c L := by
  rcases Go.Deep.open_slice Tryz.underlying40 h with ⟨hcs, -⟩ | ⟨x, len, cap, m, n, D, P0, hcs, -, hl, hm, hmm, -, hx⟩
  · exact ⟨none, 0, 0, [], hcs, rfl, by omega, by simp, .inl rfl⟩
  · refine ⟨some x, len, cap, ?_⟩
    have hml : len ≤ m := by rw [hmm]; split <;> omega
    have hcl : Tryz.prog.cellsOf 134 = 10 := by kernel_rfl
    have each : ∀ i, i < len → ∃ p : Rc × List UInt8 × List UInt8, RcF w p.1 p.2.1 p.2.2 ∧ ∀ j v, p.1.cells[j]? = some v → w.cell? ((x.add (i * 10)).add j) = some v := by
      intro i hi
      obtain ⟨cs', h1, h2⟩ := hx i (by omega)
      obtain ⟨r, l, s, rfl, hfit⟩ := rc_cells h2
      rw [hcl] at h1
      obtain ⟨_, hlen, hcell⟩ := World.cells?_some h1
      refine ⟨(r, l, s), hfit, fun j v hj => ?_⟩
      have hj3 : j < 10 := by have := (List.getElem?_eq_some_iff.1 hj).1; simpa [Rc.cells] using this
      rw [hcell j hj3, hj]
    obtain ⟨q, hq⟩ := Go.Deep.choose_lt each
    refine ⟨(List.range len).map q, hcs, by simp, by unfold maxLen at hm; omega, ?_, ?_⟩
    · intro c hc
      obtain ⟨i, hi, rfl⟩ := List.mem_map.1 hc
      exact (hq i (by simpa using hi)).1
    · by_cases h0 : len = 0
      · exact .inl h0
      · right
        obtain ⟨b, off, spot⟩ := x
        have hspot : spot = none := by simpa [Addr.add] using World.cell?_spot ((hq 0 (by omega)).2 0 _ rfl)
        subst hspot
        refine ⟨b, off, rfl, ?_, fun i hi j v hj => ?_⟩
        · exact World.block_lt_of_cell? w _ (by have := (hq 0 (by omega)).2 0 _ rfl; rw [Go.WideShapes.add_plain, Go.WideShapes.add_plain] at this; exact this)
        · have hj' : (q i).1.cells[j]? = some v := by
            rw [← hj]; congr 2; simp [hi]
          have h1 := (hq i hi).2 j v hj'
          rw [Go.WideShapes.add_plain, Go.WideShapes.add_plain] at h1
          exact h1
theorem rcs_open {a : Option Addr} {len cap : Nat} {d : DataW H} {pl : List MemPlace} (h : DataW.Trod enc Tryz.prog w base (fun _ => true) held 40 (.slice a len cap) d pl) : ∃ L, Rcs w a len cap L := by
  obtain ⟨fuel, hf⟩ := h
  obtain ⟨a', n', c', L, hc, hL⟩ := rcs_cells hf
  simp [Value.cells] at hc
  obtain ⟨rfl, rfl, rfl⟩ := hc
  exact ⟨L, hL⟩
set_option maxRecDepth 100000 in
theorem sv_cells {fuel : Nat} {cs : List Value} {x : DataW H × List MemPlace} (h : DataW.trod enc Tryz.prog w base (fun _ => true) held fuel 25 cs = some x) : ∃ s d L, cs = Sv.cells s ∧ SvF w s d L := by
  obtain ⟨xs, n, hn, rfl, hl, hlen, hf⟩ := DataW.trod_struct Tryz.underlying25 h
  have hcl : Tryz.prog.cellsOf 25 = 7 := by kernel_rfl
  rw [hcl] at hl
  have f0 := hf 0 _ rfl
  have f1 := hf 1 _ rfl
  have f2 := hf 2 _ rfl
  have f3 := hf 3 _ rfl
  have f4 := hf 4 _ rfl
  have f5 := hf 5 _ rfl
  have f6 := hf 6 _ rfl
  match cs, hl with
  | [v0, v1, v2, v3, v4, v5, v6], _ =>
    have c1 : Tryz.prog.cellsOf 3 = 1 := by kernel_rfl
    have c2 : Tryz.prog.cellsOf 22 = 1 := by kernel_rfl
    have c3 : Tryz.prog.cellsOf 23 = 1 := by kernel_rfl
    match xs, hlen with
    | [x0, x1, x2, x3, x4, x5, x6], _ =>
    simp [c1] at f0 f1 f2 f3 f4
    simp [c1, c2, c3] at f5 f6
    obtain ⟨n0, e0, w0⟩ := int_cells f0
    obtain ⟨n1, e1, w1⟩ := int_cells f1
    obtain ⟨n2, e2, w2⟩ := int_cells f2
    obtain ⟨n3, e3, w3⟩ := int_cells f3
    obtain ⟨n4, e4, w4⟩ := int_cells f4
    obtain ⟨a, n, c, l, e5, hr⟩ := bytes_cells f5
    obtain ⟨ea, en, ec, L, e6, hL⟩ := ens_cells f6
    simp at e0 e1 e2 e3 e4 e5 e6
    subst e0 e1 e2 e3 e4 e5 e6
    exact ⟨⟨n0, n1, n2, n3, n4, a, n, c, ea, en, ec⟩, l, L, rfl, w0, w1, w2, w3, w4, hr, hL⟩
set_option maxRecDepth 100000 in
theorem sv_open {base' : Nat} {v : Value} {d : DataW H} {pl : List MemPlace} (hv : Value.okWide Tryz.prog w .any base' 25 v) (h : DataW.Trod enc Tryz.prog w base (fun _ => true) held 25 v d pl) : ∃ s : Sv, v = .agg s.cells.toArray ∧ ∃ l L, SvF w s l L := by
  obtain ⟨fuel, hf⟩ := h
  obtain ⟨s, l, L, hc, hfit⟩ := sv_cells hf
  obtain ⟨cs, rfl, -⟩ := okWide_struct Tryz.underlying25 hv
  refine ⟨s, ?_, l, L, hfit⟩
  simp [Value.cells] at hc
  rw [← hc]
end
end Go.Proofs.YtjkkopbhdeljmaaGreat.W
