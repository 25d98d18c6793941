/- CAVEATS AND DEEDS as they come in: an argument's value, a slice's cells. PLAIN MATHEMATICS of layer 6 (caveat): names, which caveats may be, what they allow; no program. -/
import Derived.Test.YtkfhppbmnjmnoaaGreatDoorMem
import Derived.Deep.Slices
import Derived.ChangeSame
set_option linter.unusedSimpArgs false
set_option linter.unusedVariables false
namespace Go.Proofs.YtkfhppbmnjmnoaaGreatDoor.W
open Go.ChangeShapes Go.WideShapes Go.ChangeAt Go.RowKit

/-- a caveat -/
structure Cv where
  kind : Int
  num : Int
  name : ByteArray
def Cv.cells (c : Cv) : List Value := [.int .i64 c.kind, .int .i64 c.num, .string c.name]
def Cv.val (c : Cv) : Value := .agg #[.int .i64 c.kind, .int .i64 c.num, .string c.name]
/-- that a machine can hold it -/
def Cv.fit (c : Cv) : Prop := (-9223372036854775808 ≤ c.kind ∧ c.kind ≤ 9223372036854775807) ∧ (-9223372036854775808 ≤ c.num ∧ c.num ≤ 9223372036854775807) ∧ c.name.size ≤ maxLen
instance : Inhabited Cv := ⟨⟨0, 0, ByteArray.empty⟩⟩

/-- a deed -/
structure Dd where
  action : Int
  time : Int
  client : Int
  bytes : Int
  space : ByteArray
  snap : ByteArray
def Dd.val (d : Dd) : Value := .agg #[.int .i64 d.action, .int .i64 d.time, .int .i64 d.client, .int .i64 d.bytes, .string d.space, .string d.snap]
def Dd.fit (d : Dd) : Prop := (-9223372036854775808 ≤ d.action ∧ d.action ≤ 9223372036854775807) ∧ (-9223372036854775808 ≤ d.time ∧ d.time ≤ 9223372036854775807) ∧ (-9223372036854775808 ≤ d.client ∧ d.client ≤ 9223372036854775807) ∧ (-9223372036854775808 ≤ d.bytes ∧ d.bytes ≤ 9223372036854775807) ∧ d.space.size ≤ maxLen ∧ d.snap.size ≤ maxLen

section
variable {H : Type} {enc : TypeId × Value → H} {w : World} {base : Nat} {spare : Nat → Bool} {held : Bool}
end

/-- A slice of caveats that reads as the list L. -/
structure Cvs (w : World) (a : Option Addr) (len cap : Nat) (L : List Cv) : Prop where
  hlen : L.length = len
  hle : len ≤ cap
  hmax : cap ≤ 9223372036854775807
  hfit : ∀ c ∈ L, c.fit
  hnil : a = none → cap = 0
  hcells : len = 0 ∨ ∃ b off, a = some ⟨b, off, none⟩ ∧ b < w.heap.size ∧ ∀ i, i < len → ∀ j v, (L.getD i default).cells[j]? = some v → w.cell? ⟨b, off + i * 3 + j, none⟩ = some v
theorem Cvs.mono {w w' : World} {a : Option Addr} {len cap : Nat} {L : List Cv} (h : Cvs w a len cap L) (hb : Below w.heap.size w w') : Cvs w' a len cap L := by
  refine ⟨h.hlen, h.hle, h.hmax, h.hfit, h.hnil, ?_⟩
  rcases h.hcells with h0 | ⟨b, off, rfl, hlt, hc⟩
  · exact .inl h0
  · right
    refine ⟨b, off, rfl, Nat.lt_of_lt_of_le hlt hb.size, fun i hi j v hj => ?_⟩
    rw [hb.cell (p := ⟨b, off + i * 3 + j, none⟩) hlt]; exact hc i hi j v hj

end Go.Proofs.YtkfhppbmnjmnoaaGreatDoor.W

namespace Go.Proofs.YtkfhppbmnjmnoaaGreatDoor.W

/-- a name's byte -/
def nb (x : Nat) : Bool := (decide (97 ≤ x) && decide (x ≤ 122)) || ((decide (48 ≤ x) && decide (x ≤ 57)) || (decide (x = 45) || decide (x = 95)))
def nameL (l : List UInt8) : Bool := decide (1 ≤ l.length) && (decide (l.length ≤ 16) && l.all fun x => nb x.toNat)
def nameV (s : ByteArray) : Bool := nameL s.data.toList
def partsV (k : Int) : Int := if k = 1 ∨ k = 4 ∨ k = 5 ∨ k = 6 then 1 else if k = 2 ∨ k = 3 then 2 else 0
def mostV (k : Int) : Int := if k = 1 then 255 else if k = 4 ∨ k = 6 then 1099511627776 else if k = 5 then 7 else 0
def fitsV (p : Int) (s : ByteArray) : Bool := if p = 2 then nameV s else s.toList.isEmpty
def Cv.ok (c : Cv) : Bool := decide (partsV c.kind ≠ 0) && ((decide (0 ≤ c.num) && decide (c.num ≤ mostV c.kind)) && fitsV (partsV c.kind) c.name)
def Cv.err (c : Cv) : Int := if c.ok then 0 else 1
theorem parts_any (k : Int) : (k = 1 ∧ partsV k = 1 ∧ mostV k = 255) ∨ (k = 2 ∧ partsV k = 2 ∧ mostV k = 0) ∨ (k = 3 ∧ partsV k = 2 ∧ mostV k = 0) ∨ (k = 4 ∧ partsV k = 1 ∧ mostV k = 1099511627776) ∨ (k = 5 ∧ partsV k = 1 ∧ mostV k = 7) ∨ (k = 6 ∧ partsV k = 1 ∧ mostV k = 1099511627776) ∨
    ((k < 1 ∨ 6 < k) ∧ (k == 1) = false ∧ (k == 2) = false ∧ (k == 3) = false ∧ (k == 4) = false ∧ (k == 5) = false ∧ (k == 6) = false ∧ partsV k = 0 ∧ mostV k = 0) := by
  unfold partsV mostV
  by_cases h1 : k = 1
  · subst h1; left; exact ⟨rfl, by decide, by decide⟩
  by_cases h2 : k = 2
  · subst h2; right; left; exact ⟨rfl, by decide, by decide⟩
  by_cases h3 : k = 3
  · subst h3; right; right; left; exact ⟨rfl, by decide, by decide⟩
  by_cases h4 : k = 4
  · subst h4; right; right; right; left; exact ⟨rfl, by decide, by decide⟩
  by_cases h5 : k = 5
  · subst h5; right; right; right; right; left; exact ⟨rfl, by decide, by decide⟩
  by_cases h6 : k = 6
  · subst h6; right; right; right; right; right; left; exact ⟨rfl, by decide, by decide⟩
  · right; right; right; right; right; right
    refine ⟨by omega, by simp; omega, by simp; omega, by simp; omega, by simp; omega, by simp; omega, by simp; omega, ?_, ?_⟩
    · rw [if_neg (by omega), if_neg (by omega)]
    · rw [if_neg (by omega), if_neg (by omega), if_neg (by omega)]

end Go.Proofs.YtkfhppbmnjmnoaaGreatDoor.W
