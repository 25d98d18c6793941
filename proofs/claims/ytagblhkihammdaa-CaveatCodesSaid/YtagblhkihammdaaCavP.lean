/- PLAIN MATHEMATICS of layer 6 (caveat): names, which caveats may be, what they allow; no program. -/
import Derived.Test.YtagblhkihammdaaCavO
namespace Go.Proofs.Ytagblhkihammdaa.W

/-- a name's byte -/
def nb (x : Nat) : Bool := (decide (97 ≤ x) && decide (x ≤ 122)) || ((decide (48 ≤ x) && decide (x ≤ 57)) || (decide (x = 45) || decide (x = 95)))
def nameL (l : List UInt8) : Bool := decide (1 ≤ l.length) && (decide (l.length ≤ 16) && l.all fun x => nb x.toNat)
def nameV (s : ByteArray) : Bool := nameL s.data.toList
def partsV (k : Int) : Int := if k = 1 ∨ k = 4 ∨ k = 5 ∨ k = 6 then 1 else if k = 2 ∨ k = 3 then 2 else 0
def mostV (k : Int) : Int := if k = 1 then 255 else if k = 4 ∨ k = 6 then 1099511627776 else if k = 5 then 7 else 0
def fitsV (p : Int) (s : ByteArray) : Bool := if p = 2 then nameV s else s.toList.isEmpty
def Cv.ok (c : Cv) : Bool := decide (partsV c.kind ≠ 0) && ((decide (0 ≤ c.num) && decide (c.num ≤ mostV c.kind)) && fitsV (partsV c.kind) c.name)
def Cv.err (c : Cv) : Int := if c.ok then 0 else 1
theorem parts_any (k : Int) : (k = 1 ∧ partsV k = 1 ∧ mostV k = 255) ∨ (k = 2 ∧ partsV k = 2 ∧ mostV k = 0) ∨ (k = 3 ∧ partsV k = 2 ∧ mostV k = 0) ∨ (k = 4 ∧ partsV k = 1 ∧ mostV k = 1099511627776) ∨ (k = 5 ∧ partsV k = 1 ∧ mostV k = 7) ∨ (k = 6 ∧ partsV k = 1 ∧ mostV k = 1099511627776) ∨
    ((k < 1 ∨ 6 < k) ∧ (k == 1) = false ∧ (k == 2) = false ∧ (k == 3) = false ∧ (k == 4) = false ∧ (k == 5) = false ∧ (k == 6) = false ∧ partsV k = 0 ∧ mostV k = 0) := by
  unfold partsV mostV
  by_cases h1 : k = 1
  · subst h1; left; exact ⟨rfl, by decide, by decide⟩
  by_cases h2 : k = 2
  · subst h2; right; left; exact ⟨rfl, by decide, by decide⟩
  by_cases h3 : k = 3
  · subst h3; right; right; left; exact ⟨rfl, by decide, by decide⟩
  by_cases h4 : k = 4
  · subst h4; right; right; right; left; exact ⟨rfl, by decide, by decide⟩
  by_cases h5 : k = 5
  · subst h5; right; right; right; right; left; exact ⟨rfl, by decide, by decide⟩
  by_cases h6 : k = 6
  · subst h6; right; right; right; right; right; left; exact ⟨rfl, by decide, by decide⟩
  · right; right; right; right; right; right
    refine ⟨by omega, by simp; omega, by simp; omega, by simp; omega, by simp; omega, by simp; omega, by simp; omega, ?_, ?_⟩
    · rw [if_neg (by omega), if_neg (by omega)]
    · rw [if_neg (by omega), if_neg (by omega), if_neg (by omega)]

end Go.Proofs.Ytagblhkihammdaa.W
