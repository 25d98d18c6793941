/- LAYER 19 (ledger): the law Back, out of contracts. -/
import Derived.Test.YtdemjabmogmghaaLdH
set_option linter.unusedSimpArgs false
set_option linter.unusedVariables false
namespace Go.Proofs.Ytdemjabmogmghaa.W
open Go Go.ChangeShapes Go.WideShapes Go.ChangeAt Go.RowKit
open Go.Proofs.Ytdemjabmogmghaa.P (enc dec)

abbrev LdSameP (f : FuncId) : Prop := ∀ (v x : Value) (l m : Ld) (w : World) (V : Bool), LdV w v l → LdV w x m → (V = true ↔ l = m) → Calls Try.prog f #[v, x] w fun e w' => e = .returned (.bool V) ∧ Below w.heap.size w w'
end Go.Proofs.Ytdemjabmogmghaa.W
