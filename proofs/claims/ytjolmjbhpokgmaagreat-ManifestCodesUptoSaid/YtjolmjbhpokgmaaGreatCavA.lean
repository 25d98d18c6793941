/- LAYER 6 (caveat): awake. CONTRACTS of layer 6 (caveat): lists: few, All. CONTRACTS of layer 6 (caveat): the reference's All. -/
import Derived.Test.YtjolmjbhpokgmaaGreatCavH
import Derived.Test.YtjolmjbhpokgmaaGreatQ
set_option linter.unusedSimpArgs false
set_option linter.unusedVariables false
namespace Go.Proofs.YtjolmjbhpokgmaaGreat.W
open Go.ChangeShapes Go.WideShapes Go.ChangeAt Go.RowKit

def cv5 : Cv := ⟨4, 5, ⟨#[]⟩⟩
def dd5 (n : Int) : Dd := ⟨0, n, 0, 0, ⟨#[]⟩, ⟨#[]⟩⟩
theorem cv5_fit : cv5.fit := ⟨by decide, by decide, by decide⟩
theorem dd5_fit5 : (dd5 5).fit := ⟨by decide, by decide, by decide, by decide, by decide, by decide⟩
theorem dd5_fit6 : (dd5 6).fit := ⟨by decide, by decide, by decide, by decide, by decide, by decide⟩
theorem cv5_ok : cv5.ok = true := by decide +kernel
theorem cv5_5 : holdsV cv5 (dd5 5) = true := by decide +kernel
theorem cv5_6 : holdsV cv5 (dd5 6) = false := by decide +kernel
theorem cv5_put : putL cv5 = [4, 5] := by decide +kernel
theorem name_a : nameV ⟨#[97]⟩ = true := by decide +kernel
theorem name_A : nameV ⟨#[65]⟩ = false := by decide +kernel


end Go.Proofs.YtjolmjbhpokgmaaGreat.W

namespace Go.Proofs.YtjolmjbhpokgmaaGreat.W
open Go.ChangeShapes Go.WideShapes Go.ChangeAt Go.RowKit

def fewV (L : List Cv) : Bool := decide (L.length ≤ 30) && L.all fun c => decide (c.name.size ≤ 200)
def allV (L : List Cv) (d : Dd) : Bool := L.all fun c => holdsV c d
theorem Cvs.at {w : World} {a : Option Addr} {len cap : Nat} {L : List Cv} (h : Cvs w a len cap L) (h0 : len ≠ 0) : ∃ b off, a = some ⟨b, off, none⟩ ∧ b < w.heap.size ∧ ∀ i, i < len →
    w.cell? ⟨b, off + i * 3, none⟩ = some (.int .i64 (L.getD i default).kind) ∧ w.cell? ⟨b, off + i * 3 + 1, none⟩ = some (.int .i64 (L.getD i default).num) ∧ w.cell? ⟨b, off + i * 3 + 2, none⟩ = some (.string (L.getD i default).name) := by
  obtain ⟨b, off, rfl, hlt, hc⟩ := h.hcells.resolve_left h0
  exact ⟨b, off, rfl, hlt, fun i hi => ⟨hc i hi 0 _ rfl, hc i hi 1 _ rfl, hc i hi 2 _ rfl⟩⟩
theorem all_step {L : List Cv} {p : Cv → Bool} {k : Nat} (hk : k < L.length) : (L.take (k + 1)).all p = ((L.take k).all p && p (L.getD k default)) := by
  rw [List.take_succ_eq_append_getElem hk, List.all_append]
  simp [hk]
theorem all_bad {L : List Cv} {p : Cv → Bool} {k : Nat} (hk : k < L.length) (h : p (L.getD k default) = false) : L.all p = false := by
  rw [List.all_eq_false]
  refine ⟨L[k], List.getElem_mem _, ?_⟩
  have e : L.getD k default = L[k] := by simp [hk]
  rw [← e, h]; decide
theorem all_end {L : List Cv} {p : Cv → Bool} {n : Nat} (hn : L.length = n) (h : (L.take n).all p = true) : L.all p = true := by
  rwa [List.take_of_length_le (by omega)] at h
theorem Cvs.fitAt {w : World} {a : Option Addr} {len cap : Nat} {L : List Cv} (h : Cvs w a len cap L) {k : Nat} (hk : k < len) : (L.getD k default).fit := by
  have hk' : k < L.length := by rw [h.hlen]; exact hk
  have e : L.getD k default = L[k] := by simp [hk']
  rw [e]; exact h.hfit _ (List.getElem_mem _)



end Go.Proofs.YtjolmjbhpokgmaaGreat.W

namespace Go.Proofs.YtjolmjbhpokgmaaGreat.W
open Go.ChangeShapes Go.WideShapes Go.ChangeAt Go.RowKit


end Go.Proofs.YtjolmjbhpokgmaaGreat.W
