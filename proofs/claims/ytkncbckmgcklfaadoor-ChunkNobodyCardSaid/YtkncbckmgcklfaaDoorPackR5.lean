/- CONTRACTS of layer 2 (pack): the reference's reader of texts and flags. READERS OF BYTES, the program's and the reference's, beside each other: each stays where the other one is written. -/
import Derived.Test.YtkncbckmgcklfaaDoorPackR4b
import Derived.Test.YtkncbckmgcklfaaDoorArr
set_option linter.unusedSimpArgs false
set_option linter.unusedVariables false
namespace Go.Proofs.YtkncbckmgcklfaaDoor.W
open Go.ChangeShapes Go.WideShapes Go.ChangeAt Go.RowKit
open Go.Proofs.YtkncbckmgcklfaaDoor.P (mk lo hi enc tl gr up dec)


theorem map_add0 (a : Option Addr) : a.map (·.add 0) = a := by
  cases a with
  | none => rfl
  | some x => simp [Addr.add]





end Go.Proofs.YtkncbckmgcklfaaDoor.W

namespace Go.Proofs.YtkncbckmgcklfaaDoor.W
open Go.ChangeShapes Go.WideShapes Go.ChangeAt Go.RowKit


theorem Rd.gwp {w w' : World} {a : Option Addr} {len cap g : Nat} {l : List UInt8} (h : Rd w a len cap l) (k : Gw g w w') (hap : len = 0 ∨ ∀ b off, a = some ⟨b, off, none⟩ → b ≠ g) : Rd w' a len cap l :=
  h.gw k fun h0 => hap.resolve_left h0

end Go.Proofs.YtkncbckmgcklfaaDoor.W
