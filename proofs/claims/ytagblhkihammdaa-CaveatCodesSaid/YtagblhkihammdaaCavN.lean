/- THE LAWS of layer 6 (caveat): CaveatSame. -/
import Derived.Test.YtagblhkihammdaaCavS
namespace Go.Proofs.Ytagblhkihammdaa.W
open Go.ChangeShapes Go.WideShapes Go.ChangeAt Go.RowKit

def extV (L M : List Cv) : Bool := decide (M.length ≤ L.length) && sameV (L.take M.length) M
theorem Cvs.take {w : World} {a : Option Addr} {len cap : Nat} {L : List Cv} (h : Cvs w a len cap L) (n : Nat) (hn : n ≤ len) : Cvs w a n cap (L.take n) := by
  refine ⟨by rw [List.length_take, h.hlen]; omega, Nat.le_trans hn h.hle, h.hmax, fun c hc => h.hfit c (List.mem_of_mem_take hc), h.hnil, ?_⟩
  by_cases h0 : n = 0
  · exact .inl h0
  · obtain ⟨b, off, rfl, hlt, hc⟩ := h.hcells.resolve_left (by omega)
    refine .inr ⟨b, off, rfl, hlt, fun i hi j v hj => hc i (by omega) j v ?_⟩
    rw [← hj]; congr 2; simp [hi]




end Go.Proofs.Ytagblhkihammdaa.W
