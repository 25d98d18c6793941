/- LAYER 4 (hmac): awake; THE LAW HmacPadded. -/
import Derived.Test.YtlclkikbocbenaaDoorHmA
set_option linter.unusedSimpArgs false
set_option linter.unusedVariables false
namespace Go.Proofs.YtlclkikbocbenaaDoor.W
open Go.ChangeShapes Go.WideShapes Go.ChangeAt Go.RowKit
open Go.Proofs.YtlclkikbocbenaaDoor.P

def fox : List UInt8 := [84, 104, 101, 32, 113, 117, 105, 99, 107, 32, 98, 114, 111, 119, 110, 32, 102, 111, 120, 32, 106, 117, 109, 112, 115, 32, 111, 118, 101, 114, 32, 116, 104, 101, 32, 108, 97, 122, 121, 32, 100, 111, 103]
theorem fox_tag : tagL [107, 101, 121] fox = [247, 188, 131, 244, 48, 83, 132, 36, 177, 50, 152, 230, 170, 111, 177, 67, 239, 77, 89, 161, 73, 70, 23, 89, 151, 71, 157, 188, 45, 26, 60, 216] := by decide +kernel
/-- bytes in new memory -/
theorem rd_made (w : World) (l : List UInt8) (cs : Array Value) (t : TypeId) (fr : Nat × Nat) (hc : cs = (l.map B).toArray) (hl : l.length ≤ 9223372036854775807) :
    Rd (w.alloc (.cells cs t fr)) (some ⟨w.heap.size, 0, none⟩) l.length l.length l := by
  subst hc
  refine ⟨rfl, Nat.le_refl _, hl, (fun h => by cases h), .inr ⟨_, 0, rfl, by simp, fun i hi => ?_⟩⟩
  rw [World.cell?_alloc_mark]; simp [hi]



end Go.Proofs.YtlclkikbocbenaaDoor.W
