/- WHAT IS LAID of layer 3 (sha), and THE LAWS ShaNobody and ShaPads. -/
import Derived.Test.YtagblhkihammdaaDoorShaF
import Derived.Lib.LaidTab
import Derived.Lay
namespace Go.Proofs.YtagblhkihammdaaDoor.W
open Go.ChangeShapes Go.WideShapes Go.ChangeAt Go.RowKit
open Go.Proofs.YtagblhkihammdaaDoor.P

def laidS : List (String × DataW Unit) := [("bailey/sha.constants", Rows.laid_bailey_sha_constants)]
theorem ks_of_laid {W : World} (h : laidMet Tryd.prog laidS W) : Ks W := by
  have hT : Lib.TabIs Tryd.prog W "bailey/sha.constants" .u32 (Kc.map fun x => (x.toNat : Int)) :=
    Lib.tabIs_of_head (rest := []) (g := 0) (t := 150) (e := 43) (n := 64) (by kernel_rfl) (by kernel_rfl) Tryd.underlying150 Tryd.underlying43 (by kernel_rfl) (by kernel_rfl) h
  have hc : ∀ i, i < 64 → W.cell? ⟨0, i, none⟩ = some (.int .u32 ((Kc.map fun x => (x.toNat : Int)).getD i 0)) := fun i hi => hT.cell (by kernel_rfl) i (by simpa [Kc_len] using hi)
  refine ⟨World.block_lt_of_cell? W _ (hc 0 (by decide)), fun j v hj => ?_⟩
  have hj64 : j < 64 := by have := (List.getElem?_eq_some_iff.1 hj).1; simpa [Kc_len] using this
  rw [hc j hj64, ← hj]
  have hk : j < Kc.length := by rw [Kc_len]; exact hj64
  simp [U, hk]



end Go.Proofs.YtagblhkihammdaaDoor.W
