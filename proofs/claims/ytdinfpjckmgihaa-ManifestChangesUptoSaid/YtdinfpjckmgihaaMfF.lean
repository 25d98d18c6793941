/- LAYER 20 (manifest): Find and Add of the program. -/
import Derived.Test.YtdinfpjckmgihaaMfE
set_option linter.unusedSimpArgs false
set_option linter.unusedVariables false
namespace Go.Proofs.Ytdinfpjckmgihaa.W
open Go Go.ChangeShapes Go.WideShapes Go.ChangeAt Go.RowKit
open Go.Proofs.Ytdinfpjckmgihaa.P (enc dec)
open Go.Proofs.Ytdinfpjckmgihaa.S

theorem FewP.at {L : List Sn} (hf : FewP L) {k : Nat} {s : Sn} (h : L[k]? = some s) : s.P.length ≤ 1000 := hf s (List.mem_of_getElem? h)
def snXZ : SnX := ⟨snZ, none, 0, 0⟩
theorem snXZ_own (w : World) (base : Nat) : OwnX w base snXZ := ⟨by decide, by decide, by unfold SI64; decide, by unfold SI64; decide, by unfold SI64; decide, rfl, (fun p hp => by cases hp), LsO.nil _ _⟩
end Go.Proofs.Ytdinfpjckmgihaa.W
