/- LAYER 11 (record): saved states, lists of entries and of records that came in. -/
import Derived.Test.YtiopcojkdglapaaRcI
import Derived.Deep.Slices
set_option linter.unusedSimpArgs false
set_option linter.unusedVariables false
namespace Go.Proofs.Ytiopcojkdglapaa.W
open Go Go.ChangeShapes Go.WideShapes Go.ChangeAt Go.RowKit

def Ez : En × List UInt8 := (En.zero, [])
instance : Inhabited (En × List UInt8) := ⟨Ez⟩
/-- a slice of entries reads as a list: each with its bytes -/
structure Ents (w : World) (a : Option Addr) (len cap : Nat) (L : List (En × List UInt8)) : Prop where
  hlen : L.length = len
  hle : len ≤ cap
  hmax : cap ≤ 9223372036854775807
  hfit : ∀ p ∈ L, EnF w p.1 p.2
  hnil : a = none → cap = 0
  hcells : len = 0 ∨ ∃ b off, a = some ⟨b, off, none⟩ ∧ b < w.heap.size ∧ ∀ i, i < len → ∀ j v, (L.getD i Ez).1.cells[j]? = some v → w.cell? ⟨b, off + i * 4 + j, none⟩ = some v
theorem Ents.mono {w w' : World} {a : Option Addr} {len cap : Nat} {L : List (En × List UInt8)} (h : Ents w a len cap L) (hb : Below w.heap.size w w') : Ents w' a len cap L := by
  refine ⟨h.hlen, h.hle, h.hmax, fun p hp => (h.hfit p hp).mono hb, h.hnil, ?_⟩
  rcases h.hcells with h0 | ⟨b, off, rfl, hlt, hc⟩
  · exact .inl h0
  · right
    refine ⟨b, off, rfl, Nat.lt_of_lt_of_le hlt hb.size, fun i hi j v hj => ?_⟩
    rw [hb.cell (p := ⟨b, off + i * 4 + j, none⟩) hlt]; exact hc i hi j v hj
theorem Ents.nil (w : World) : Ents w none 0 0 [] := ⟨rfl, by omega, by omega, by simp, fun _ => rfl, .inl rfl⟩
/-- a saved state, as it is handed over -/
structure Sv where
  t : Int
  v : Int
  b : Int
  bt : Int
  f : Int
  a : Option Addr
  n : Nat
  c : Nat
  ea : Option Addr
  en : Nat
  ec : Nat
def Sv.cells (s : Sv) : List Value := [.int .i64 s.t, .int .i64 s.v, .int .i64 s.b, .int .i64 s.bt, .int .i64 s.f, .slice s.a s.n s.c, .slice s.ea s.en s.ec]
structure SvF (w : World) (s : Sv) (d : List UInt8) (L : List (En × List UInt8)) : Prop where
  t : I64 s.t
  v : I64 s.v
  b : I64 s.b
  bt : I64 s.bt
  f : I64 s.f
  rd : Rd w s.a s.n s.c d
  es : Ents w s.ea s.en s.ec L
theorem SvF.mono {w w' : World} {s : Sv} {d : List UInt8} {L : List (En × List UInt8)} (h : SvF w s d L) (hb : Below w.heap.size w w') : SvF w' s d L := ⟨h.t, h.v, h.b, h.bt, h.f, h.rd.mono hb, h.es.mono hb⟩
theorem Row.q7 {w : World} {g : Nat} {t : TypeId} {a0 a1 a2 a3 a4 a5 a6 : Value} (h : Row w g t [a0, a1, a2, a3, a4, a5, a6]) :
    w.cell? ⟨g, 0, none⟩ = some a0 ∧ w.cell? ⟨g, 1, none⟩ = some a1 ∧ w.cell? ⟨g, 2, none⟩ = some a2 ∧ w.cell? ⟨g, 3, none⟩ = some a3 ∧ w.cell? ⟨g, 4, none⟩ = some a4 ∧ w.cell? ⟨g, 5, none⟩ = some a5 ∧ w.cell? ⟨g, 6, none⟩ = some a6 := by
  refine ⟨?_, ?_, ?_, ?_, ?_, ?_, ?_⟩ <;> (rw [h.cellV]; rfl)
def Rcz : Rc × List UInt8 × List UInt8 := (⟨0, 0, 0, En.zero, 0, 0, none, 0, 0⟩, [], [])
instance : Inhabited (Rc × List UInt8 × List UInt8) := ⟨Rcz⟩
/-- a slice of records reads as a list: each with its entry's and its snapshot's bytes -/
structure Rcs (w : World) (a : Option Addr) (len cap : Nat) (L : List (Rc × List UInt8 × List UInt8)) : Prop where
  hlen : L.length = len
  hmax : len ≤ 9223372036854775807
  hfit : ∀ p ∈ L, RcF w p.1 p.2.1 p.2.2
  hcells : len = 0 ∨ ∃ b off, a = some ⟨b, off, none⟩ ∧ b < w.heap.size ∧ ∀ i, i < len → ∀ j v, (L.getD i Rcz).1.cells[j]? = some v → w.cell? ⟨b, off + i * 10 + j, none⟩ = some v
theorem Rcs.mono {w w' : World} {a : Option Addr} {len cap : Nat} {L : List (Rc × List UInt8 × List UInt8)} (h : Rcs w a len cap L) (hb : Below w.heap.size w w') : Rcs w' a len cap L := by
  refine ⟨h.hlen, h.hmax, fun p hp => (h.hfit p hp).mono hb, ?_⟩
  rcases h.hcells with h0 | ⟨b, off, rfl, hlt, hc⟩
  · exact .inl h0
  · right
    refine ⟨b, off, rfl, Nat.lt_of_lt_of_le hlt hb.size, fun i hi j v hj => ?_⟩
    rw [hb.cell (p := ⟨b, off + i * 10 + j, none⟩) hlt]; exact hc i hi j v hj

section
variable {H : Type} {enc : TypeId × Value → H} {w : World} {base : Nat} {held : Bool}
end
end Go.Proofs.Ytiopcojkdglapaa.W
