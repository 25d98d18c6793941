/- CALLEES' CONTRACTS in the class of worlds that have grown. No number of a dump. -/
import Derived.Test.YtagblhkihammdaaQ
namespace Go.Proofs.Ytagblhkihammdaa.W
open Go.ChangeShapes Go.WideShapes Go.ChangeAt Go.RowKit
/-- a callee's contract in the class 'grown from B' -/
theorem q_grow {P : Program} {f : FuncId} {args : Array Value} {v b : World} {x y : Value} (h : Calls P f args v fun e v' => e = .returned x ∧ Below v.heap.size v v') (hx : x = y) (hv : Below b.heap.size b v) :
    Calls P f args v fun e v' => e = .returned y ∧ Below b.heap.size b v' := by subst hx; exact h.mono fun _ _ ⟨he, hb⟩ => ⟨he, hv.trans (hb.mono hv.size)⟩
theorem q_same {P : Program} {f : FuncId} {args : Array Value} {v b : World} {x y : Value} (h : Calls P f args v fun e v' => e = .returned x ∧ v = v') (hx : x = y) (hv : Below b.heap.size b v) :
    Calls P f args v fun e v' => e = .returned y ∧ Below b.heap.size b v' := by subst hx; exact h.mono fun _ _ ⟨he, hb⟩ => ⟨he, hb ▸ hv⟩
end Go.Proofs.Ytagblhkihammdaa.W
