/- CONTRACTS of layer 6 (caveat): which caveats may be. -/
import Derived.Test.YtagblhkihammdaaCavP
import Derived.Test.YtagblhkihammdaaQ
namespace Go.Proofs.Ytagblhkihammdaa.W
open Go.ChangeShapes Go.WideShapes Go.ChangeAt Go.RowKit

set_option maxHeartbeats 400000 in
theorem cwithin (n low high : Int) (w : World) :
    Calls Try.prog 48 #[.int .i64 n, .int .i64 low, .int .i64 high] w fun e w' => e = .returned (.bool (decide (low ≤ n) && decide (n ≤ high))) ∧ w = w' := by
  go_enter Try.func48, Try.ntmps48
  go_wp2
  all_goals
    go_ret
    exact ⟨by congr 2; simp; omega, rfl⟩

theorem cparts (k : Int) (w : World) : Calls Try.prog 28 #[.int .i64 k] w fun e w' => e = .returned (.int .i64 (partsV k)) ∧ w = w' := by
  rcases parts_any k with ⟨rfl, e1, e2⟩ | ⟨rfl, e1, e2⟩ | ⟨rfl, e1, e2⟩ | ⟨rfl, e1, e2⟩ | ⟨rfl, e1, e2⟩ | ⟨rfl, e1, e2⟩ | ⟨hk, n1, n2, n3, n4, n5, n6, e1, e2⟩
  all_goals
    rw [e1]
    clear e1 e2
    go_enter Try.func28, Try.ntmps28
    go_wp2
    go_ret
    exact ⟨rfl, rfl⟩

theorem cmost (k : Int) (w : World) : Calls Try.prog 41 #[.int .i64 k] w fun e w' => e = .returned (.int .i64 (mostV k)) ∧ w = w' := by
  rcases parts_any k with ⟨rfl, e1, e2⟩ | ⟨rfl, e1, e2⟩ | ⟨rfl, e1, e2⟩ | ⟨rfl, e1, e2⟩ | ⟨rfl, e1, e2⟩ | ⟨rfl, e1, e2⟩ | ⟨hk, n1, n2, n3, n4, n5, n6, e1, e2⟩
  all_goals
    rw [e2]
    clear e1 e2
    go_enter Try.func41, Try.ntmps41
    go_wp2
    go_ret
    exact ⟨rfl, rfl⟩

def namedV (k : Int) : Bool := decide (partsV k = 2)
def rmostV (k : Int) : Int := if k = 1 then 255 else if k = 5 then 7 else 1099511627776
theorem unamed (k : Int) (w : World) : Calls Try.prog 33 #[.int .i64 k] w fun e w' => e = .returned (.bool (namedV k)) ∧ w = w' := by
  unfold namedV
  rcases parts_any k with ⟨rfl, e1, e2⟩ | ⟨rfl, e1, e2⟩ | ⟨rfl, e1, e2⟩ | ⟨rfl, e1, e2⟩ | ⟨rfl, e1, e2⟩ | ⟨rfl, e1, e2⟩ | ⟨hk, n1, n2, n3, n4, n5, n6, e1, e2⟩
  all_goals
    rw [e1]
    clear e1 e2
    go_enter Try.func33, Try.ntmps33
    go_wp2
    go_ret
    exact ⟨by first | rfl | simp [n2, n3], rfl⟩
theorem umost (k : Int) (w : World) : Calls Try.prog 47 #[.int .i64 k] w fun e w' => e = .returned (.int .i64 (rmostV k)) ∧ w = w' := by
  rcases parts_any k with ⟨rfl, e1, e2⟩ | ⟨rfl, e1, e2⟩ | ⟨rfl, e1, e2⟩ | ⟨rfl, e1, e2⟩ | ⟨rfl, e1, e2⟩ | ⟨rfl, e1, e2⟩ | ⟨hk, n1, n2, n3, n4, n5, n6, e1, e2⟩
  all_goals
    try rw [show rmostV k = 1099511627776 from by unfold rmostV; rw [if_neg (by omega), if_neg (by omega)]]
    clear e1 e2
    go_enter Try.func47, Try.ntmps47
    go_wp2
    go_ret
    exact ⟨rfl, rfl⟩

theorem cnameByte (x : Nat) (w : World) (hx : x < 256) : Calls Try.prog 51 #[.int .u8 (x : Int)] w fun e w' => e = .returned (.bool (nb x)) ∧ w = w' := by
  obtain ⟨b, hb⟩ : ∃ b, nb x = b := ⟨_, rfl⟩
  rw [hb]
  have HB := Lib.hid hb
  clear hb
  by_cases h1 : 97 ≤ x <;> by_cases h2 : x ≤ 122 <;> by_cases h3 : 48 ≤ x <;> by_cases h4 : x ≤ 57 <;> by_cases h5 : x = 45 <;> by_cases h6 : x = 95
  all_goals first | omega | skip
  all_goals
    first | have n5 : ((x : Int) == 45) = true := by simp; omega | have n5 : ((x : Int) == 45) = false := by simp; omega
    first | have n6 : ((x : Int) == 95) = true := by simp; omega | have n6 : ((x : Int) == 95) = false := by simp; omega
    go_enter Try.func51, Try.ntmps51
    go_wp2
    go_ret
    refine ⟨?_, rfl⟩
    rw [← HB.out]
    simp [nb, *]

end Go.Proofs.Ytagblhkihammdaa.W
