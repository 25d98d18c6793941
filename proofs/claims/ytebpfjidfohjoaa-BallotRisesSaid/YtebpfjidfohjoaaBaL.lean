/- LAYER 15 (ballot): the laws Fresh, Apart, Back, out of what the program owes. -/
import Derived.Test.YtebpfjidfohjoaaBaO
set_option linter.unusedSimpArgs false
set_option linter.unusedVariables false
namespace Go.Proofs.Ytebpfjidfohjoaa.W
open Go Go.ChangeShapes Go.WideShapes Go.ChangeAt Go.RowKit
open Go.Proofs.Ytebpfjidfohjoaa.B (Best)

set_option maxRecDepth 100000 in
set_option maxHeartbeats 4000000 in
theorem awake15 (F : BaFreshP) (V : BaVoteP) (T : BaTimeP) (w : World) : Calls Try.prog 14 #[] w fun e w' => e = .returned (.bool true) ∧ Below w.heap.size w w' := by
  have F1 := Lib.hid (F 3 2 9 1)
  have F2 := Lib.hid (F 3 1 9 1)
  have V1 := Lib.hid (fun w => V 2 1 true w (by decide) (by decide))
  have V2 := Lib.hid (fun w => V 2 0 true w (by decide) (by decide))
  have T1 := Lib.hid (T 2)
  rw [show freshV 3 2 9 1 = true from rfl] at F1
  rw [show freshV 3 1 9 1 = false from rfl] at F2
  rw [show (true && decide ((2 : Int) - 1 = 1)) = true from rfl] at V1
  rw [show (true && decide ((2 : Int) - 1 = 0)) = false from rfl] at V2
  rw [show timeV 2 = 16 from rfl] at T1
  clear F V T
  go_enter Try.func14, Try.ntmps14
  go_wp2_with (first
    | (go_at_call 15; (with_reducible refine (F1.out _).mono ?_); rintro e w1 ⟨rfl, hb⟩; have B1 := Lib.hid hb; clear hb)
    | (go_at_call 15; (with_reducible refine (F2.out _).mono ?_); rintro e w2 ⟨rfl, hb⟩; have B2 := Lib.hid (B1.out.trans (hb.mono B1.out.size)); clear hb)
    | (go_at_call 23; (with_reducible refine (V1.out _).mono ?_); rintro e w3 ⟨rfl, hb⟩; have B3 := Lib.hid (B2.out.trans (hb.mono B2.out.size)); clear hb)
    | (go_at_call 23; (with_reducible refine (V2.out _).mono ?_); rintro e w4 ⟨rfl, hb⟩; have B4 := Lib.hid (B3.out.trans (hb.mono B3.out.size)); clear hb)
    | (go_at_call 17; (with_reducible refine (T1.out _).mono ?_); rintro e w5 ⟨rfl, hb⟩; have B5 := Lib.hid (B4.out.trans (hb.mono B4.out.size)); clear hb))
  go_ret
  exact ⟨rfl, B5.out⟩

set_option maxRecDepth 100000 in
set_option maxHeartbeats 4000000 in
theorem fresh_of (F : BaFreshP) (V : BaVoteP) (T : BaTimeP) (a b c d : Int) (w : World) : Calls Try.prog 4 #[.int .i64 a, .int .i64 b, .int .i64 c, .int .i64 d] w fun e w' => e = .returned (.bool true) ∧ Below w.heap.size w w' := by
  have h1 := fresh_or a b c d
  have h2 := fresh_and a b c d
  have FA := Lib.hid (F a b c d)
  have FB := Lib.hid (F c d a b)
  have AW := Lib.hid (awake15 F V T)
  obtain ⟨x, hx⟩ : ∃ x, freshV a b c d = x := ⟨_, rfl⟩
  obtain ⟨y, hy⟩ : ∃ y, freshV c d a b = y := ⟨_, rfl⟩
  rw [hx] at h1 h2 FA
  rw [hy] at h1 h2 FB
  clear hx hy F V T
  by_cases e1 : a = c <;> by_cases e2 : b = d
  · subst e1 e2
    have h3 : x = true ∧ y = true := by cases x <;> cases y <;> simp_all
    obtain ⟨rfl, rfl⟩ := h3
    clear h1 h2
    go_enter Try.func4, Try.ntmps4
    go_wp2_with (first
      | (go_at_call 15; (with_reducible refine (FA.out w).mono ?_); rintro e w1 ⟨rfl, hb⟩; have B1 := Lib.hid hb; clear hb)
      | (go_at_call 15; (with_reducible refine (FB.out w1).mono ?_); rintro e w2 ⟨rfl, hb⟩; have B2 := Lib.hid (B1.out.trans (hb.mono B1.out.size)); clear hb)
      | (go_at_call 14; (with_reducible refine (AW.out w2).mono ?_); rintro e w3 ⟨rfl, hb⟩; have B3 := Lib.hid (B2.out.trans (hb.mono B2.out.size)); clear hb))
    go_ret
    exact ⟨rfl, B3.out⟩
  all_goals
    have h3 : (x = true ∧ y = false) ∨ (x = false ∧ y = true) := by cases x <;> cases y <;> simp_all
    clear h1 h2
    (try subst e1); (try subst e2)
    rcases h3 with ⟨rfl, rfl⟩ | ⟨rfl, rfl⟩
  all_goals
    go_enter Try.func4, Try.ntmps4
    go_wp2_with (first
      | (go_at_call 15; (with_reducible refine (FA.out w).mono ?_); rintro e w1 ⟨rfl, hb⟩; have B1 := Lib.hid hb; clear hb)
      | (go_at_call 15; (with_reducible refine (FB.out w1).mono ?_); rintro e w2 ⟨rfl, hb⟩; have B2 := Lib.hid (B1.out.trans (hb.mono B1.out.size)); clear hb)
      | (go_at_call 14; (with_reducible refine (AW.out w2).mono ?_); rintro e w3 ⟨rfl, hb⟩; have B3 := Lib.hid (B2.out.trans (hb.mono B2.out.size)); clear hb))
    all_goals (go_ret; first | exact ⟨rfl, B3.out⟩ | (exfalso; omega) | exact ⟨by simp_all, B3.out⟩)

theorem timeV_ge {n : Int} (h0 : 0 ≤ n) (h1 : n ≤ 6) : 10 ≤ timeV n ∧ timeV n ≤ 28 := by unfold timeV; rw [if_neg (by omega)]; omega
theorem timeV_apart {a b : Int} (h0 : 0 ≤ a) (h1 : a ≤ 6) (h2 : 0 ≤ b) (h3 : b ≤ 6) (h : a ≠ b) : timeV a ≠ timeV b := by unfold timeV; rw [if_neg (by omega), if_neg (by omega)]; omega
set_option maxRecDepth 100000 in
set_option maxHeartbeats 4000000 in
theorem apart_of (F : BaFreshP) (V : BaVoteP) (T : BaTimeP) (a b : Int) (w : World) : Calls Try.prog 7 #[.int .i64 a, .int .i64 b] w fun e w' => e = .returned (.bool true) ∧ Below w.heap.size w w' := by
  have AW := Lib.hid (awake15 F V T)
  by_cases hc : 0 ≤ a ∧ a ≤ 6 ∧ 0 ≤ b ∧ b ≤ 6 ∧ a ≠ b
  · obtain ⟨a0, a6, b0, b6, hn⟩ := hc
    have hx1 := timeV_ge a0 a6
    have hy1 := timeV_ge b0 b6
    have hxy := timeV_apart a0 a6 b0 b6 hn
    have TA := Lib.hid (T a)
    have TB := Lib.hid (T b)
    obtain ⟨x, hx⟩ : ∃ x, timeV a = x := ⟨_, rfl⟩
    obtain ⟨y, hy⟩ : ∃ y, timeV b = y := ⟨_, rfl⟩
    rw [hx] at hx1 hxy TA
    rw [hy] at hy1 hxy TB
    clear hx hy F V T
    obtain ⟨x1, x2⟩ := hx1
    obtain ⟨y1, y2⟩ := hy1
    have hq1 : (a == b) = false := by simpa using hn
    have hq2 : ¬ (a = b) := hn
    have hq3 : (x == y) = false := by simpa using hxy
    have hq4 : ¬ (x = y) := hxy
    clear hn hxy
    go_enter Try.func7, Try.ntmps7
    go_wp2_with (first
      | (go_at_call 17; (with_reducible refine (TA.out w).mono ?_); rintro e w1 ⟨rfl, hb⟩; have B1 := Lib.hid hb; clear hb)
      | (go_at_call 17; (with_reducible refine (TB.out w1).mono ?_); rintro e w2 ⟨rfl, hb⟩; have B2 := Lib.hid (B1.out.trans (hb.mono B1.out.size)); clear hb)
      | (go_at_call 17; (with_reducible refine (TA.out w2).mono ?_); rintro e w3 ⟨rfl, hb⟩; have B3 := Lib.hid (B2.out.trans (hb.mono B2.out.size)); clear hb)
      | (go_at_call 17; (with_reducible refine (TA.out w3).mono ?_); rintro e w4 ⟨rfl, hb⟩; have B4 := Lib.hid (B3.out.trans (hb.mono B3.out.size)); clear hb)
      | (go_at_call 14; (with_reducible refine (AW.out w4).mono ?_); rintro e w5 ⟨rfl, hb⟩; have B5 := Lib.hid (B4.out.trans (hb.mono B4.out.size)); clear hb))
    all_goals (go_ret; exact ⟨one (vbool (by simpa using hq4)), B5.out⟩)
  · have HC := show a < 0 ∨ 6 < a ∨ b < 0 ∨ 6 < b ∨ a = b by omega
    clear F V T hc
    rcases HC with h | h | h | h | h
    all_goals (try subst h)
    all_goals
      go_enter Try.func7, Try.ntmps7
      go_wp2_with (go_at_call 14; (with_reducible refine (AW.out w).mono ?_); rintro e w5 ⟨rfl, hb⟩; have B5 := Lib.hid hb; clear hb)
      all_goals (first | (go_ret; exact ⟨rfl, B5.out⟩) | (exfalso; omega))
end Go.Proofs.Ytebpfjidfohjoaa.W
