/- CONTRACTS of layer 6 (caveat): which caveats may be. CONTRACTS of layer 6 (caveat): names; which caveats may be. CONTRACTS of layer 6 (caveat): Check, and the reference's. -/
import Derived.Test.YtkfhppbmnjmnoaaGreatDoorCavO
import Derived.Test.YtkfhppbmnjmnoaaGreatDoorQ
set_option linter.unusedSimpArgs false
set_option linter.unusedVariables false
namespace Go.Proofs.YtkfhppbmnjmnoaaGreatDoor.W
open Go.ChangeShapes Go.WideShapes Go.ChangeAt Go.RowKit

set_option maxHeartbeats 400000 in
theorem cwithin (n low high : Int) (w : World) :
    Calls Tryz.prog 35 #[.int .i64 n, .int .i64 low, .int .i64 high] w fun e w' => e = .returned (.bool (decide (low ≤ n) && decide (n ≤ high))) ∧ w = w' := by
  go_enter Tryz.func35, Tryz.ntmps35
  go_wp2
  all_goals
    go_ret
    exact ⟨by congr 2; simp; omega, rfl⟩



def namedV (k : Int) : Bool := decide (partsV k = 2)
def rmostV (k : Int) : Int := if k = 1 then 255 else if k = 5 then 7 else 1099511627776


end Go.Proofs.YtkfhppbmnjmnoaaGreatDoor.W

namespace Go.Proofs.YtkfhppbmnjmnoaaGreatDoor.W
open Go.ChangeShapes Go.WideShapes Go.ChangeAt Go.RowKit

theorem all_take (s : ByteArray) (k : Nat) (hk : k < s.size) : (s.data.toList.take (k + 1)).all (fun x => nb x.toNat) = ((s.data.toList.take k).all (fun x => nb x.toNat) && nb s[k].toNat) := by
  have hk' : k < s.data.toList.length := by simpa using hk
  rw [List.take_succ_eq_append_getElem hk', List.all_append]
  simp
  rfl
theorem name_bad (s : ByteArray) (k : Nat) (hk : k < s.size) (h : nb s[k].toNat = false) : nameV s = false := by
  have hk' : k < s.data.toList.length := by simpa using hk
  have : (s.data.toList.all fun x => nb x.toNat) = false := by
    rw [List.all_eq_false]
    exact ⟨s.data.toList[k], List.getElem_mem _, by rw [Array.getElem_toList]; show ¬ nb s[k].toNat = true; rw [h]; decide⟩
  unfold nameV nameL
  rw [this, Bool.and_false, Bool.and_false]
theorem name_good (s : ByteArray) (h1 : 1 ≤ s.size) (h2 : s.size ≤ 16) (h : (s.data.toList.take s.size).all (fun x => nb x.toNat) = true) : nameV s = true := by
  have e : s.data.toList.take s.size = s.data.toList := List.take_of_length_le (by simp)
  rw [e] at h
  unfold nameV nameL
  rw [h]
  simp
  exact ⟨h1, h2⟩
theorem name_len (s : ByteArray) (h : ¬ (1 ≤ s.size ∧ s.size ≤ 16)) : nameV s = false := by
  have e : s.data.toList.length = s.size := by simp
  unfold nameV nameL
  rw [e]
  rcases Nat.lt_or_ge s.size 1 with h1 | h1
  · rw [decide_eq_false (by omega), Bool.false_and]
  · rw [decide_eq_false (p := s.size ≤ 16) (by omega), Bool.false_and, Bool.and_false]
theorem cwithin_b (n low high : Int) (w : World) (b : Bool) (hb : (decide (low ≤ n) && decide (n ≤ high)) = b) :
    Calls Tryz.prog 35 #[.int .i64 n, .int .i64 low, .int .i64 high] w fun e w' => e = .returned (.bool b) ∧ w = w' := by
  subst hb; exact cwithin n low high w



end Go.Proofs.YtkfhppbmnjmnoaaGreatDoor.W

namespace Go.Proofs.YtkfhppbmnjmnoaaGreatDoor.W
open Go.ChangeShapes Go.WideShapes Go.ChangeAt Go.RowKit

theorem quiet_sw {P : Program} {f : FuncId} {args : Array Value} {w : World} {n : Nat} {v v' : Value} (h : Calls P f args (w.drewN n) fun e w' => e = .returned v' ∧ w.drewN n = w') (hv : v' = v) :
    Calls P f args (w.drewN n) fun e w'' => e = .returned v ∧ ∃ m, w'' = w.drewN m := by
  subst hv
  exact h.mono fun _ _ ⟨he, hw⟩ => ⟨he, n, hw.symm⟩
theorem parts_ne (k : Int) : partsV k = 0 ∨ partsV k = 1 ∨ partsV k = 2 := by
  rcases parts_any k with ⟨rfl, e1, e2⟩ | ⟨rfl, e1, e2⟩ | ⟨rfl, e1, e2⟩ | ⟨rfl, e1, e2⟩ | ⟨rfl, e1, e2⟩ | ⟨rfl, e1, e2⟩ | ⟨hk, n1, n2, n3, n4, n5, n6, e1, e2⟩ <;> omega


end Go.Proofs.YtkfhppbmnjmnoaaGreatDoor.W
