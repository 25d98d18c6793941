/- LAYER 20 (manifest): slices.Delete of one snapshot, Remove of the program. -/
import Derived.Test.YtjolmjbhpokgmaaGreatMfG
import Derived.Test.YtjolmjbhpokgmaaGreatDel
set_option linter.unusedSimpArgs false
set_option linter.unusedVariables false
namespace Go.Proofs.YtjolmjbhpokgmaaGreat.W
open Go Go.ChangeShapes Go.WideShapes Go.ChangeAt Go.RowKit
open Go.Proofs.YtjolmjbhpokgmaaGreat.P (enc dec)
open Go.Proofs.YtjolmjbhpokgmaaGreat.S

theorem snz_zero : (Tryz.prog.info? 45).map (·.zero) = some (some (.agg (SnX.cells snXZ).toArray)) := by kernel_rfl
theorem sn_z1 : (madeCells (SnX.cells snXZ).toArray ((0 + 1) * (SnX.cells snXZ).toArray.size)).toList = SnX.cells snXZ := by kernel_rfl
theorem lso_pos {α : Type} {E : El α} {w : World} {base n : Nat} {v : Value} {L : List α} (h : LsO E w base v L) (hn : L.length = n) (h0 : 0 < n) : ∃ g c, v = .slice (some ⟨g, 0, none⟩) n c ∧ base ≤ g := by
  obtain ⟨-, h2⟩ := h
  rcases h2 with ⟨rfl, h0'⟩ | ⟨g, c, cur, rfl, hg, -⟩
  · omega
  · exact ⟨g, c, by rw [hn], hg⟩
end Go.Proofs.YtjolmjbhpokgmaaGreat.W
