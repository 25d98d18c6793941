/- LAYER 11 (record): entries and records by value; within, Entry, SameEntry, Same of both. -/
import Derived.Test.YtiopcojkdglapaaByt
import Derived.Test.YtiopcojkdglapaaQ
set_option linter.unusedSimpArgs false
set_option linter.unusedVariables false
namespace Go.Proofs.Ytiopcojkdglapaa.W
open Go Go.ChangeShapes Go.WideShapes Go.ChangeAt Go.RowKit
open Go.Proofs.Ytiopcojkdglapaa.P (enc dec)

/-- an entry, as it is handed over -/
structure En where
  ix : Int
  tm : Int
  kd : Int
  a : Option Addr
  n : Nat
  c : Nat
def En.cells (e : En) : List Value := [.int .i64 e.ix, .int .i64 e.tm, .int .i64 e.kd, .slice e.a e.n e.c]
def En.zero : En := ⟨0, 0, 0, none, 0, 0⟩
/-- a record, as it is handed over -/
structure Rc where
  k : Int
  t : Int
  v : Int
  e : En
  i : Int
  f : Int
  a : Option Addr
  n : Nat
  c : Nat
def Rc.cells (r : Rc) : List Value := [.int .i64 r.k, .int .i64 r.t, .int .i64 r.v, .int .i64 r.e.ix, .int .i64 r.e.tm, .int .i64 r.e.kd, .slice r.e.a r.e.n r.e.c, .int .i64 r.i, .int .i64 r.f, .slice r.a r.n r.c]
/-- numbers of 64 bits -/
def I64 (x : Int) : Prop := -9223372036854775808 ≤ x ∧ x ≤ 9223372036854775807
structure EnF (w : World) (e : En) (l : List UInt8) : Prop where
  ix : I64 e.ix
  tm : I64 e.tm
  kd : I64 e.kd
  rd : Rd w e.a e.n e.c l
structure RcF (w : World) (r : Rc) (l s : List UInt8) : Prop where
  k : I64 r.k
  t : I64 r.t
  v : I64 r.v
  e : EnF w r.e l
  i : I64 r.i
  f : I64 r.f
  rd : Rd w r.a r.n r.c s
theorem EnF.mono {w w' : World} {e : En} {l : List UInt8} (h : EnF w e l) (hb : Below w.heap.size w w') : EnF w' e l := ⟨h.ix, h.tm, h.kd, h.rd.mono hb⟩
theorem RcF.mono {w w' : World} {r : Rc} {l s : List UInt8} (h : RcF w r l s) (hb : Below w.heap.size w w') : RcF w' r l s := ⟨h.k, h.t, h.v, h.e.mono hb, h.i, h.f, h.rd.mono hb⟩
theorem Row.q4 {w : World} {g : Nat} {t : TypeId} {a b c d : Value} (h : Row w g t [a, b, c, d]) : w.cell? ⟨g, 0, none⟩ = some a ∧ w.cell? ⟨g, 1, none⟩ = some b ∧ w.cell? ⟨g, 2, none⟩ = some c ∧ w.cell? ⟨g, 3, none⟩ = some d := by
  refine ⟨?_, ?_, ?_, ?_⟩ <;> (rw [h.cellV]; rfl)
theorem Row.q10 {w : World} {g : Nat} {t : TypeId} {a0 a1 a2 a3 a4 a5 a6 a7 a8 a9 : Value} (h : Row w g t [a0, a1, a2, a3, a4, a5, a6, a7, a8, a9]) :
    w.cell? ⟨g, 0, none⟩ = some a0 ∧ w.cell? ⟨g, 1, none⟩ = some a1 ∧ w.cell? ⟨g, 2, none⟩ = some a2 ∧ w.cell? ⟨g, 3, none⟩ = some a3 ∧ w.cell? ⟨g, 4, none⟩ = some a4 ∧ w.cell? ⟨g, 5, none⟩ = some a5 ∧ w.cell? ⟨g, 6, none⟩ = some a6 ∧ w.cell? ⟨g, 7, none⟩ = some a7 ∧ w.cell? ⟨g, 8, none⟩ = some a8 ∧ w.cell? ⟨g, 9, none⟩ = some a9 := by
  refine ⟨?_, ?_, ?_, ?_, ?_, ?_, ?_, ?_, ?_, ?_⟩ <;> (rw [h.cellV]; rfl)
/-- the entry in a record's cells -/
theorem Row.ent {w : World} {g : Nat} {t : TypeId} {r : Rc} (h : Row w g t r.cells) : ∀ j v, r.e.cells[j]? = some v → w.cell? ⟨g, 3 + j, none⟩ = some v := by
  intro j v hj
  have hj4 : j < 4 := (List.getElem?_eq_some_iff.1 hj).1
  rw [h.cellV, ← hj]
  have : j = 0 ∨ j = 1 ∨ j = 2 ∨ j = 3 := by omega
  rcases this with rfl | rfl | rfl | rfl <;> rfl

def inV (n lo hi : Int) : Bool := decide (lo ≤ n) && decide (n ≤ hi)
def enOk (e : En) : Bool := inV e.ix 1 2147483648 && (inV e.tm 0 2147483648 && (inV e.kd 0 2 && decide (e.n ≤ 4096)))
def sameE (e f : En) (l m : List UInt8) : Bool := (e.ix == f.ix) && ((e.tm == f.tm) && ((e.kd == f.kd) && decide (l = m)))
def sameR (r s : Rc) (l m p q : List UInt8) : Bool := (r.k == s.k) && ((r.t == s.t) && ((r.v == s.v) && ((r.i == s.i) && ((r.f == s.f) && (sameE r.e s.e l m && decide (p = q))))))

theorem ch3 : ∀ b0 b1 b2 : Bool, (b0 = false) ∨ (b0 = true ∧ b1 = false) ∨ (b0 = true ∧ b1 = true ∧ b2 = false) ∨ (b0 = true ∧ b1 = true ∧ b2 = true) := by
  intro b0 b1 b2
  cases b0 <;> cases b1 <;> cases b2 <;> simp
theorem ch4 : ∀ b0 b1 b2 b3 : Bool, (b0 = false) ∨ (b0 = true ∧ b1 = false) ∨ (b0 = true ∧ b1 = true ∧ b2 = false) ∨ (b0 = true ∧ b1 = true ∧ b2 = true ∧ b3 = false) ∨ (b0 = true ∧ b1 = true ∧ b2 = true ∧ b3 = true) := by
  intro b0 b1 b2 b3
  cases b0 <;> cases b1 <;> cases b2 <;> cases b3 <;> simp
theorem ch7 : ∀ b0 b1 b2 b3 b4 b5 b6 : Bool, (b0 = false) ∨ (b0 = true ∧ b1 = false) ∨ (b0 = true ∧ b1 = true ∧ b2 = false) ∨ (b0 = true ∧ b1 = true ∧ b2 = true ∧ b3 = false) ∨ (b0 = true ∧ b1 = true ∧ b2 = true ∧ b3 = true ∧ b4 = false) ∨ (b0 = true ∧ b1 = true ∧ b2 = true ∧ b3 = true ∧ b4 = true ∧ b5 = false) ∨ (b0 = true ∧ b1 = true ∧ b2 = true ∧ b3 = true ∧ b4 = true ∧ b5 = true ∧ b6 = false) ∨ (b0 = true ∧ b1 = true ∧ b2 = true ∧ b3 = true ∧ b4 = true ∧ b5 = true ∧ b6 = true) := by
  intro b0 b1 b2 b3 b4 b5 b6
  cases b0 <;> cases b1 <;> cases b2 <;> cases b3 <;> cases b4 <;> cases b5 <;> cases b6 <;> simp




end Go.Proofs.Ytiopcojkdglapaa.W
