/- LAYER 11 (record): saved states, lists of entries and of records that came in. -/
import Derived.Test.YtdcioeoofngibaaRcI
import Derived.Deep.Slices
set_option linter.unusedSimpArgs false
set_option linter.unusedVariables false
namespace Go.Proofs.Ytdcioeoofngibaa.W
open Go Go.ChangeShapes Go.WideShapes Go.ChangeAt Go.RowKit

def Ez : En × List UInt8 := (En.zero, [])
instance : Inhabited (En × List UInt8) := ⟨Ez⟩
/-- a slice of entries reads as a list: each with its bytes -/
structure Ents (w : World) (a : Option Addr) (len cap : Nat) (L : List (En × List UInt8)) : Prop where
  hlen : L.length = len
  hle : len ≤ cap
  hmax : cap ≤ 9223372036854775807
  hfit : ∀ p ∈ L, EnF w p.1 p.2
  hnil : a = none → cap = 0
  hcells : len = 0 ∨ ∃ b off, a = some ⟨b, off, none⟩ ∧ b < w.heap.size ∧ ∀ i, i < len → ∀ j v, (L.getD i Ez).1.cells[j]? = some v → w.cell? ⟨b, off + i * 4 + j, none⟩ = some v
theorem Ents.mono {w w' : World} {a : Option Addr} {len cap : Nat} {L : List (En × List UInt8)} (h : Ents w a len cap L) (hb : Below w.heap.size w w') : Ents w' a len cap L := by
  refine ⟨h.hlen, h.hle, h.hmax, fun p hp => (h.hfit p hp).mono hb, h.hnil, ?_⟩
  rcases h.hcells with h0 | ⟨b, off, rfl, hlt, hc⟩
  · exact .inl h0
  · right
    refine ⟨b, off, rfl, Nat.lt_of_lt_of_le hlt hb.size, fun i hi j v hj => ?_⟩
    rw [hb.cell (p := ⟨b, off + i * 4 + j, none⟩) hlt]; exact hc i hi j v hj
theorem Ents.nil (w : World) : Ents w none 0 0 [] := ⟨rfl, by omega, by omega, by simp, fun _ => rfl, .inl rfl⟩
/-- a saved state, as it is handed over -/
structure Sv where
  t : Int
  v : Int
  b : Int
  bt : Int
  f : Int
  a : Option Addr
  n : Nat
  c : Nat
  ea : Option Addr
  en : Nat
  ec : Nat
def Sv.cells (s : Sv) : List Value := [.int .i64 s.t, .int .i64 s.v, .int .i64 s.b, .int .i64 s.bt, .int .i64 s.f, .slice s.a s.n s.c, .slice s.ea s.en s.ec]
structure SvF (w : World) (s : Sv) (d : List UInt8) (L : List (En × List UInt8)) : Prop where
  t : I64 s.t
  v : I64 s.v
  b : I64 s.b
  bt : I64 s.bt
  f : I64 s.f
  rd : Rd w s.a s.n s.c d
  es : Ents w s.ea s.en s.ec L
theorem SvF.mono {w w' : World} {s : Sv} {d : List UInt8} {L : List (En × List UInt8)} (h : SvF w s d L) (hb : Below w.heap.size w w') : SvF w' s d L := ⟨h.t, h.v, h.b, h.bt, h.f, h.rd.mono hb, h.es.mono hb⟩
theorem Row.q7 {w : World} {g : Nat} {t : TypeId} {a0 a1 a2 a3 a4 a5 a6 : Value} (h : Row w g t [a0, a1, a2, a3, a4, a5, a6]) :
    w.cell? ⟨g, 0, none⟩ = some a0 ∧ w.cell? ⟨g, 1, none⟩ = some a1 ∧ w.cell? ⟨g, 2, none⟩ = some a2 ∧ w.cell? ⟨g, 3, none⟩ = some a3 ∧ w.cell? ⟨g, 4, none⟩ = some a4 ∧ w.cell? ⟨g, 5, none⟩ = some a5 ∧ w.cell? ⟨g, 6, none⟩ = some a6 := by
  refine ⟨?_, ?_, ?_, ?_, ?_, ?_, ?_⟩ <;> (rw [h.cellV]; rfl)
def Rcz : Rc × List UInt8 × List UInt8 := (⟨0, 0, 0, En.zero, 0, 0, none, 0, 0⟩, [], [])
instance : Inhabited (Rc × List UInt8 × List UInt8) := ⟨Rcz⟩
/-- a slice of records reads as a list: each with its entry's and its snapshot's bytes -/
structure Rcs (w : World) (a : Option Addr) (len cap : Nat) (L : List (Rc × List UInt8 × List UInt8)) : Prop where
  hlen : L.length = len
  hmax : len ≤ 9223372036854775807
  hfit : ∀ p ∈ L, RcF w p.1 p.2.1 p.2.2
  hcells : len = 0 ∨ ∃ b off, a = some ⟨b, off, none⟩ ∧ b < w.heap.size ∧ ∀ i, i < len → ∀ j v, (L.getD i Rcz).1.cells[j]? = some v → w.cell? ⟨b, off + i * 10 + j, none⟩ = some v
theorem Rcs.mono {w w' : World} {a : Option Addr} {len cap : Nat} {L : List (Rc × List UInt8 × List UInt8)} (h : Rcs w a len cap L) (hb : Below w.heap.size w w') : Rcs w' a len cap L := by
  refine ⟨h.hlen, h.hmax, fun p hp => (h.hfit p hp).mono hb, ?_⟩
  rcases h.hcells with h0 | ⟨b, off, rfl, hlt, hc⟩
  · exact .inl h0
  · right
    refine ⟨b, off, rfl, Nat.lt_of_lt_of_le hlt hb.size, fun i hi j v hj => ?_⟩
    rw [hb.cell (p := ⟨b, off + i * 10 + j, none⟩) hlt]; exact hc i hi j v hj

section
variable {H : Type} {enc : TypeId × Value → H} {w : World} {base : Nat} {held : Bool}
set_option maxRecDepth 100000 in
theorem ens_cells {fuel : Nat} {cs : List Value} {d : DataW H × List MemPlace} (h : DataW.trod enc Try.prog w base (fun _ => true) held fuel 22 cs = some d) : ∃ a n c L, cs = [.slice a n c] ∧ Ents w a n c L := by
  rcases Go.Deep.open_slice Try.underlying22 h with ⟨hcs, -⟩ | ⟨x, len, cap, m, n, D, P0, hcs, -, hl, hm, hmm, -, hx⟩
  · exact ⟨none, 0, 0, [], hcs, Ents.nil w⟩
  · refine ⟨some x, len, cap, ?_⟩
    have hml : len ≤ m := by rw [hmm]; split <;> omega
    have hcl : Try.prog.cellsOf 40 = 4 := by kernel_rfl
    have each : ∀ i, i < len → ∃ p : En × List UInt8, EnF w p.1 p.2 ∧ ∀ j v, p.1.cells[j]? = some v → w.cell? ((x.add (i * 4)).add j) = some v := by
      intro i hi
      obtain ⟨cs', h1, h2⟩ := hx i (by omega)
      obtain ⟨e, l, rfl, hfit⟩ := en_cells h2
      rw [hcl] at h1
      obtain ⟨_, hlen, hcell⟩ := World.cells?_some h1
      refine ⟨(e, l), hfit, fun j v hj => ?_⟩
      have hj3 : j < 4 := by have := (List.getElem?_eq_some_iff.1 hj).1; simpa [En.cells] using this
      rw [hcell j hj3, hj]
    obtain ⟨q, hq⟩ := Go.Deep.choose_lt each
    refine ⟨(List.range len).map q, hcs, by simp, hl, by unfold maxLen at hm; omega, ?_, (fun h => by cases h), ?_⟩
    · intro c hc
      obtain ⟨i, hi, rfl⟩ := List.mem_map.1 hc
      exact (hq i (by simpa using hi)).1
    · by_cases h0 : len = 0
      · exact .inl h0
      · right
        obtain ⟨b, off, spot⟩ := x
        have hspot : spot = none := by simpa [Addr.add] using World.cell?_spot ((hq 0 (by omega)).2 0 _ rfl)
        subst hspot
        refine ⟨b, off, rfl, ?_, fun i hi j v hj => ?_⟩
        · exact World.block_lt_of_cell? w _ (by have := (hq 0 (by omega)).2 0 _ rfl; rw [Go.WideShapes.add_plain, Go.WideShapes.add_plain] at this; exact this)
        · have hj' : (q i).1.cells[j]? = some v := by
            rw [← hj]; congr 2; simp [hi]
          have h1 := (hq i hi).2 j v hj'
          rw [Go.WideShapes.add_plain, Go.WideShapes.add_plain] at h1
          exact h1
end
end Go.Proofs.Ytdcioeoofngibaa.W
