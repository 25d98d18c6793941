/- LAYER 13 (rlog): a log in memory, and what it is, plain. -/
import Derived.Test.YtnlbdgaleibgcaaEnO
import Derived.Test.YtnlbdgaleibgcaaRcEq
import Derived.Test.YtnlbdgaleibgcaaTail
import Derived.Test.YtnlbdgaleibgcaaFoot
set_option linter.unusedSimpArgs false
set_option linter.unusedVariables false
namespace Go.Proofs.Ytnlbdgaleibgcaa.W
open Go Go.ChangeShapes Go.WideShapes Go.ChangeAt Go.RowKit

abbrev Pe := Int × Int × Int × List UInt8
/-- a log, plain: its base's number, term, members; its entries -/
structure LS where
  b : Int
  t : Int
  c : Int
  l : List Pe
/-- numbers that rise by one -/
def rise : Int → List Pe → Prop
  | _, [] => True
  | b, x :: l => x.1 = b + 1 ∧ rise (b + 1) l
/-- what every log of the law is -/
structure LOK (q : LS) : Prop where
  r : rise q.b q.l
  b : 0 ≤ q.b ∧ q.b ≤ 4294967296
  n : q.l.length ≤ 200
  x : ∀ x ∈ q.l, x.2.2.2.length ≤ 4096
def LS.last (q : LS) : Int := q.b + q.l.length
def LS.has (q : LS) (i : Int) : Bool := decide (q.b < i) && decide (i ≤ q.last)
/-- the entry of that number -/
def LS.at (q : LS) (i : Int) : Pe := q.l.getD (i - q.b - 1).toNat (0, 0, 0, [])
def LS.term (q : LS) (i : Int) : Int := if i = q.b then q.t else if q.has i = true then (q.at i).2.1 else 0
def LS.termE (q : LS) (i : Int) : Int := if i = q.b then 0 else if q.has i = true then 0 else 6
/-- the program's log in memory: its own blocks are those of F -/
structure LG (w : World) (p : Nat) (F : Nat → Prop) (b t c : Int) (ea : Option Addr) (en ec : Nat) (L : List (En × List UInt8)) : Prop where
  row : Row w p 55 [.bool true, .int .i64 b, .int .i64 t, .int .i64 c, .slice ea en ec]
  es : EnO w ea en ec (L.map (·.1))
  ne : ∀ x off, ea = some ⟨x, off, none⟩ → F x ∧ x ≠ p
  fit : ∀ x ∈ L, EnF w x.1 x.2
  fa : ∀ x ∈ L, x.1.n ≠ 0 → ∀ k off, x.1.a = some ⟨k, off, none⟩ → F k
  fp : F p
  lt : ∀ k, F k → k < w.heap.size
theorem LG.len {w : World} {p : Nat} {F : Nat → Prop} {b t c : Int} {ea : Option Addr} {en ec : Nat} {L : List (En × List UInt8)} (h : LG w p F b t c ea en ec L) : L.length = en := by
  have := h.es.1; simpa using this
theorem LG.ents {w : World} {p : Nat} {F : Nat → Prop} {b t c : Int} {ea : Option Addr} {en ec : Nat} {L : List (En × List UInt8)} (h : LG w p F b t c ea en ec L) : Ents w ea en ec L := h.es.ents rfl h.fit
theorem EnO.ft {F : Nat → Prop} {w w' : World} {ea : Option Addr} {en ec : Nat} {M : List En} (h : EnO w ea en ec M) (k : Ft F w w') (hn : ∀ x off, ea = some ⟨x, off, none⟩ → ¬ F x) : EnO w' ea en ec M := by
  obtain ⟨h1, h2⟩ := h
  refine ⟨h1, ?_⟩
  rcases h2 with h2 | ⟨g, R, e, hr, r⟩
  · exact .inl h2
  · exact .inr ⟨g, R, e, hr.ft k (hn g 0 e), r⟩
/-- what touches none of its blocks leaves a log -/
theorem LG.ft {G F : Nat → Prop} {w w' : World} {p : Nat} {b t c : Int} {ea : Option Addr} {en ec : Nat} {L : List (En × List UInt8)} (h : LG w p F b t c ea en ec L) (k : Ft G w w') (hd : ∀ x, F x → ¬ G x) : LG w' p F b t c ea en ec L :=
  ⟨h.row.ft k (hd p h.fp), h.es.ft k (fun x off e => hd x (h.ne x off e).1), h.ne, fun x hx => ⟨(h.fit x hx).ix, (h.fit x hx).tm, (h.fit x hx).kd, (h.fit x hx).rd.ft k (fun hn b off e => hd b (h.fa x hx hn b off e))⟩, h.fa, h.fp, fun x hx => Nat.lt_of_lt_of_le (h.lt x hx) k.size⟩
theorem LG.mono {F : Nat → Prop} {w w' : World} {p : Nat} {b t c : Int} {ea : Option Addr} {en ec : Nat} {L : List (En × List UInt8)} (h : LG w p F b t c ea en ec L) (hb : Below w.heap.size w w') : LG w' p F b t c ea en ec L :=
  h.ft (Ft.of_below (F := fun _ => False) hb) (fun _ _ h => h)
theorem Row.c5 {w : World} {g : Nat} {ty : TypeId} {a0 a1 a2 a3 a4 : Value} (h : Row w g ty [a0, a1, a2, a3, a4]) :
    w.cell? ⟨g, 0, none⟩ = some a0 ∧ w.cell? ⟨g, 1, none⟩ = some a1 ∧ w.cell? ⟨g, 2, none⟩ = some a2 ∧ w.cell? ⟨g, 3, none⟩ = some a3 ∧ w.cell? ⟨g, 4, none⟩ = some a4 := by
  refine ⟨?_, ?_, ?_, ?_, ?_⟩ <;> (rw [h.cellV]; rfl)
/-- the plain log -/
def lsOf (b t c : Int) (L : List (En × List UInt8)) : LS := ⟨b, t, c, L.map pe⟩
theorem at_of {b t c : Int} {L : List (En × List UInt8)} {k : Nat} (hk : k < L.length) : (lsOf b t c L).at (b + 1 + k) = pe (L.getD k Ez) := by
  unfold LS.at lsOf
  dsimp only
  have h1 : (b + 1 + (k : Int) - b - 1).toNat = k := by omega
  rw [h1]
  simp [List.getD_eq_getElem?_getD, hk]
end Go.Proofs.Ytnlbdgaleibgcaa.W
