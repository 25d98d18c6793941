/- CONTRACTS of layer 6 (caveat): the same lists, one that begins with another. THE LAWS of layer 6 (caveat): CaveatSame. -/
import Derived.Test.YtjolmjbhpokgmaaGreatCavA
import Derived.DeepKeys
set_option linter.unusedSimpArgs false
set_option linter.unusedVariables false
namespace Go.Proofs.YtjolmjbhpokgmaaGreat.W
open Go.ChangeShapes Go.WideShapes Go.ChangeAt Go.RowKit

def cvEq (c d : Cv) : Bool := decide (c.kind = d.kind) && (decide (c.num = d.num) && decide (c.name.data.toList = d.name.data.toList))
theorem cvEq_refl (c : Cv) : cvEq c c = true := by simp [cvEq]
theorem i64_wf {x : Int} (h : -9223372036854775808 ≤ x ∧ x ≤ 9223372036854775807) : (Lit.int .i64 x).wf = true := by
  simp [Lit.wf, IntKind.min, IntKind.max, IntKind.bits, IntKind.signed]; omega

def pairV (L M : List Cv) (i : Nat) : Bool := cvEq (L.getD i default) (M.getD i default)
def sameV (L M : List Cv) : Bool := decide (L.length = M.length) && (List.range L.length).all (pairV L M)
theorem range_step {p : Nat → Bool} (k : Nat) : (List.range (k + 1)).all p = ((List.range k).all p && p k) := by
  rw [List.range_succ, List.all_append]; simp
theorem range_bad {p : Nat → Bool} {n k : Nat} (hk : k < n) (h : p k = false) : (List.range n).all p = false := by
  rw [List.all_eq_false]
  exact ⟨k, List.mem_range.2 hk, by rw [h]; decide⟩
theorem same_refl (L : List Cv) : sameV L L = true := by
  unfold sameV
  rw [decide_eq_true rfl, Bool.true_and, List.all_eq_true]
  intro i _
  exact cvEq_refl _




end Go.Proofs.YtjolmjbhpokgmaaGreat.W

namespace Go.Proofs.YtjolmjbhpokgmaaGreat.W
open Go.ChangeShapes Go.WideShapes Go.ChangeAt Go.RowKit

def extV (L M : List Cv) : Bool := decide (M.length ≤ L.length) && sameV (L.take M.length) M
theorem Cvs.take {w : World} {a : Option Addr} {len cap : Nat} {L : List Cv} (h : Cvs w a len cap L) (n : Nat) (hn : n ≤ len) : Cvs w a n cap (L.take n) := by
  refine ⟨by rw [List.length_take, h.hlen]; omega, Nat.le_trans hn h.hle, h.hmax, fun c hc => h.hfit c (List.mem_of_mem_take hc), h.hnil, ?_⟩
  by_cases h0 : n = 0
  · exact .inl h0
  · obtain ⟨b, off, rfl, hlt, hc⟩ := h.hcells.resolve_left (by omega)
    refine .inr ⟨b, off, rfl, hlt, fun i hi j v hj => hc i (by omega) j v ?_⟩
    rw [← hj]; congr 2; simp [hi]




end Go.Proofs.YtjolmjbhpokgmaaGreat.W
