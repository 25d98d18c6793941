/- LAYER 20 (manifest): slices.Insert at a list of snapshots of one's own. LAYER 20 (manifest): Find and Add of the program. -/
import Derived.Test.YtjolmjbhpokgmaaGreatMfC
import Derived.Laws.Externs
set_option linter.unusedSimpArgs false
set_option linter.unusedVariables false
namespace Go.Proofs.YtjolmjbhpokgmaaGreat.W
open Go Go.ChangeShapes Go.WideShapes Go.ChangeAt Go.RowKit

/-- all blocks but that of v are as they were -/
def Kp (v : Value) (w w' : World) : Prop := ∀ k, k < w.heap.size → v.ownBlock ≠ some k → w'.heap[k]? = w.heap[k]?
theorem Kp.of_grown {v : Value} {w w' : World} (h : w.grownBy w' v.ownBlock) : Kp v w w' := fun k hk hn => h.block k hk (fun e => hn e.symm)
theorem LsO.keep {α : Type} {E : El α} {w w' : World} {base : Nat} {v : Value} {L : List α} (h : LsO E w base v L) (hk : ∀ g, v.ownBlock = some g → w'.heap[g]? = w.heap[g]?) : LsO E w' base v L := by
  obtain ⟨h1, h2⟩ := h
  refine ⟨h1, ?_⟩
  rcases h2 with h2 | ⟨g, cap, cur, rfl, hg, hh, r⟩
  · exact .inl h2
  · exact .inr ⟨g, cap, cur, rfl, hg, (hk g rfl).trans hh, r⟩
theorem Ls.of_rowM {w : World} {g n c : Nat} {L : List SnX} {R : List Value} (hr : Row w g 45 R) (hn : L.length = n) (hc : n ≤ c) (hm : c ≤ maxLen) (ht : R.take (n * 6) = flatE snE L) (hf : ∀ x ∈ L, x.fit w) : Ls snE w (some ⟨g, 0, none⟩) n c L := by
  refine ⟨hn, hc, by unfold maxLen at hm; omega, hf, (fun h => by cases h), .inr ⟨g, 0, rfl, hr.lt, fun i x hi j v hj => ?_⟩⟩
  have hj3 : j < 6 := (List.getElem?_eq_some_iff.1 hj).1
  have hil : i < L.length := (List.getElem?_eq_some_iff.1 hi).1
  have e := flatE_at snOk L i j x hi hj3
  rw [Nat.zero_add, hr.cellV]
  rw [hj, ← ht, List.getElem?_take, if_pos (show i * snE.k + j < n * 6 by show i * 6 + j < n * 6; omega)] at e
  exact e
theorem LsO.of_rowM {w : World} {base g n c : Nat} {L : List SnX} {R : List Value} (hr : Row w g 45 R) (hg : base ≤ g) (hn : L.length = n) (hc : n ≤ c) (hm : c ≤ maxLen) (hl : R.length = c * 6) (ht : R.take (n * 6) = flatE snE L) : LsO snE w base (.slice (some ⟨g, 0, none⟩) n c) L := by
  subst hn
  exact ⟨by rw [flatE_len snOk], .inr ⟨g, c, R.toArray, rfl, hg, hr, hc, hm, by simpa using hl, by simpa using ht⟩⟩
end Go.Proofs.YtjolmjbhpokgmaaGreat.W

namespace Go.Proofs.YtjolmjbhpokgmaaGreat.W
open Go Go.ChangeShapes Go.WideShapes Go.ChangeAt Go.RowKit
open Go.Proofs.YtjolmjbhpokgmaaGreat.P (enc dec)
open Go.Proofs.YtjolmjbhpokgmaaGreat.S

theorem FewP.at {L : List Sn} (hf : FewP L) {k : Nat} {s : Sn} (h : L[k]? = some s) : s.P.length ≤ 1000 := hf s (List.mem_of_getElem? h)
def snXZ : SnX := ⟨snZ, none, 0, 0⟩
theorem snXZ_own (w : World) (base : Nat) : OwnX w base snXZ := ⟨by decide, by decide, by unfold SI64; decide, by unfold SI64; decide, by unfold SI64; decide, rfl, (fun p hp => by cases hp), LsO.nil _ _⟩
end Go.Proofs.YtjolmjbhpokgmaaGreat.W
