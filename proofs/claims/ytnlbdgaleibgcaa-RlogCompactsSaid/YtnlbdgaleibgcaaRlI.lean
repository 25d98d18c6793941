/- LAYER 13 (rlog): the program's iterator over the entries, from the last one on. -/
import Derived.Test.YtnlbdgaleibgcaaRlO
import Derived.RangeFuncNested
import Derived.RangeFuncBound
import Derived.RangeFuncCalls
import Derived.RangeFuncLeaves
import Derived.Shelf.Abstract
import Derived.Shelf.RegionOpen
import Derived.OwnWalkIn
import Derived.TacticsInMore
import Derived.LoopNIn
import Derived.LoopIn
import Derived.BigRegionIn
set_option linter.unusedSimpArgs false
set_option linter.unusedVariables false
namespace Go.Proofs.Ytnlbdgaleibgcaa.W
open Go Go.ChangeShapes Go.WideShapes Go.ChangeAt Go.RowKit Go.Shelf
attribute [local go_sem] Oper.semAt_some

/-- what comes is an entry's place -/
abbrev Ix13 (n : Nat) := { k : Nat // k < n }
def encE (L : List (En × List UInt8)) (n : Nat) (k : Ix13 n) : Array Value := #[.agg (L.getD k.1 Ez).1.cells.toArray]
def placesOf {n : Nat} (pre : List (Ix13 n)) : List Nat := pre.map (·.1)
def AllB (L : List (En × List UInt8)) (n : Nat) (i : Int) (m : Nat) (pre : List (Ix13 n)) : Prop := (∀ k, m ≤ k → k < n → (L.getD k Ez).1.ix ≤ i → k ∈ placesOf pre) ∧ ∀ k ∈ placesOf pre, m ≤ k
def StopB (L : List (En × List UInt8)) (n : Nat) (i : Int) (pre : List (Ix13 n)) : Prop := ∃ init x, pre = init ++ [x] ∧ (L.getD x.1 Ez).1.ix ≤ i ∧ AllB L n i (x.1 + 1) init
theorem placesOf_app {n : Nat} (pre : List (Ix13 n)) (x : Ix13 n) : placesOf (pre ++ [x]) = placesOf pre ++ [x.1] := by simp [placesOf]
theorem AllB.take {L : List (En × List UInt8)} {n : Nat} {i : Int} {k : Nat} {pre : List (Ix13 n)} (h : AllB L n i (k + 1) pre) (hk : k < n) : AllB L n i k (pre ++ [⟨k, hk⟩]) := by
  refine ⟨fun j hj hjn hx => ?_, fun j hj => ?_⟩
  · rw [placesOf_app]
    by_cases e : j = k
    · subst e; simp
    · exact List.mem_append_left _ (h.1 j (by omega) hjn hx)
  · rw [placesOf_app] at hj
    rcases List.mem_append.1 hj with hj | hj
    · have := h.2 j hj; omega
    · rw [List.mem_singleton.1 hj]; exact Nat.le_refl _
theorem AllB.skip {L : List (En × List UInt8)} {n : Nat} {i : Int} {k : Nat} {pre : List (Ix13 n)} (h : AllB L n i (k + 1) pre) (hx : ¬ (L.getD k Ez).1.ix ≤ i) : AllB L n i k pre := by
  refine ⟨fun j hj hjn hxj => ?_, fun j hj => by have := h.2 j hj; omega⟩
  by_cases e : j = k
  · subst e; exact absurd hxj hx
  · exact h.1 j (by omega) hjn hxj
set_option maxRecDepth 100000 in
set_option maxHeartbeats 4000000 in
theorem gback (p : Nat) (i : Int) (w : World) :
    Calls Try.prog 61 #[.pointer (some ⟨p, 0, none⟩), .int .i64 i] w fun x w' => x = .returned (.func (.func 77) #[] #[.pointer (some ⟨w.heap.size, 0, none⟩), .pointer (some ⟨w.heap.size + 1, 0, none⟩)]) ∧ Row w' w.heap.size 27 [.pointer (some ⟨p, 0, none⟩)] ∧ Row w' (w.heap.size + 1) 3 [.int .i64 i] ∧ Below w.heap.size w w' ∧ w'.heap.size = w.heap.size + 2 := by
  go_enter Try.func61, Try.ntmps61
  go_wp2_with (first
    | (with_reducible refine box_cell (o := ⟨some 2, _, _, _, _, _⟩) rfl _ _ rfl (.pointer (some ⟨p, 0, none⟩)) rfl rfl ?_; intro w1 hr1 hb1 hz1; have R1 := Lib.hid hr1; have B1 := Lib.hid hb1; have Z1 := Lib.hid hz1; clear hr1 hb1 hz1)
    | (with_reducible refine box_cell (o := ⟨some 3, _, _, _, _, _⟩) rfl _ _ rfl (.int .i64 i) rfl rfl ?_; intro w2 hr1 hb1 hz1; rw [Z1.out] at hr1 hz1 ⊢; have R2 := Lib.hid hr1; have R12 := Lib.hid (R1.out.below hb1 (by rw [Z1.out]; exact Nat.lt_succ_self _)); have B2 := Lib.hid (B1.out.trans (hb1.mono B1.out.size)); have Z2 := Lib.hid hz1; clear hr1 hb1 hz1))
  go_ret
  exact ⟨rfl, R12.out, R2.out, B2.out, Z2.out⟩
end Go.Proofs.Ytnlbdgaleibgcaa.W
