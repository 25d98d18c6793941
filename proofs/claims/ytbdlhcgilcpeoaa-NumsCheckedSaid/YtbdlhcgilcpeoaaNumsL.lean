/- THE LAWS of layer 1 (nums): each returns true; nothing that was there has changed. -/
import Derived.Test.YtbdlhcgilcpeoaaNumsWc
namespace Go.Proofs.Ytbdlhcgilcpeoaa.W
open Go.ChangeShapes Go.WideShapes Go.ChangeAt Go.RowKit
open Go.Proofs.Ytbdlhcgilcpeoaa.B Go.Proofs.Ytbdlhcgilcpeoaa.S

set_option maxHeartbeats 1000000 in
theorem law_NumsWithin (n low high : Int) (w : World) (_w0 : (Lit.int .i64 n).wf = true) (_w1 : (Lit.int .i64 low).wf = true) (_w2 : (Lit.int .i64 high).wf = true) :
    Calls Try.prog 4 #[.int .i64 n, .int .i64 low, .int .i64 high] w fun e w' => e = .returned (.bool true) ∧ Below w.heap.size w w' := by
  by_cases h1 : low ≤ n <;> by_cases h2 : n ≤ high
  all_goals
    go_enter Try.func4, Try.ntmps4
    go_wp2_with (first | (go_at_call 21; refine (within _ _ _ _).mono ?_; rintro e w' ⟨rfl, rfl⟩) | (go_at_call 20; refine (awake _).mono ?_; rintro e w' ⟨rfl, hb⟩))
    go_ret
    exact ⟨by simp, by assumption⟩

set_option maxHeartbeats 1000000 in
theorem law_NumsChecked (a b : Int) (w : World) (w0 : (Lit.int .i64 a).wf = true) (w1 : (Lit.int .i64 b).wf = true) :
    Calls Try.prog 3 #[.int .i64 a, .int .i64 b] w fun e w' => e = .returned (.bool true) ∧ Below w.heap.size w w' := by
  have W0 := Lib.hid w0
  have W1 := Lib.hid w1
  clear w0 w1
  go_enter Try.func3, Try.ntmps3
  go_wp2_with (first | (go_at_call 14; refine (nadd a b _ W0.out W1.out).mono ?_; rintro e w' ⟨rfl, rfl⟩) | (go_at_call 15; refine (nsub a b _ W0.out W1.out).mono ?_; rintro e w' ⟨rfl, rfl⟩) | (go_at_call 16; refine (nmul a b _ W0.out W1.out).mono ?_; rintro e w' ⟨rfl, rfl⟩) | (go_at_call 17; refine (radd a b _ W0.out W1.out).mono ?_; rintro e w' ⟨rfl, rfl⟩) | (go_at_call 18; refine (rsub a b _ W0.out W1.out).mono ?_; rintro e w' ⟨rfl, rfl⟩) | (go_at_call 19; refine (rmul a b _ W0.out W1.out).mono ?_; rintro e w' ⟨rfl, rfl⟩) | (go_at_call 20; refine (awake _).mono ?_; rintro e w' ⟨rfl, hb⟩))
  go_ret
  exact ⟨rfl, by assumption⟩

set_option maxHeartbeats 1000000 in
theorem law_NumsSums (most : Int) (a : Option Addr) (len cap : Nat) (zs : List Int) (w : World) (_w0 : (Lit.int .i64 most).wf = true) (w1 : IsRow .i64 w a len cap zs) :
    Calls Try.prog 5 #[.int .i64 most, .slice a len cap] w fun e w' => e = .returned (.bool true) ∧ Below w.heap.size w w' := by
  obtain ⟨hs, -⟩ := Sl.of_row w1
  have hm := hs.2.1
  have HS := Lib.hid hs
  clear hs w1
  by_cases h : 200 < len
  · go_enter Try.func5, Try.ntmps5
    go_wp2_with (go_at_call 20; refine (awake _).mono ?_; rintro e w' ⟨rfl, hb⟩)
    go_ret
    exact ⟨rfl, by assumption⟩
  · go_enter Try.func5, Try.ntmps5
    go_wp2_with (first | (go_at_call 22; refine (nsum _ _ _ _ _ _ HS.out).mono ?_; rintro e w' ⟨rfl, rfl⟩) | (go_at_call 23; refine (rsum _ _ _ _ _ _ HS.out).mono ?_; rintro e w' ⟨rfl, rfl⟩) | (go_at_call 20; refine (awake _).mono ?_; rintro e w' ⟨rfl, hb⟩))
    go_ret
    exact ⟨rfl, by assumption⟩

set_option maxHeartbeats 1000000 in
theorem law_NumsSets (b i : Int) (w : World) (w0 : (Lit.int .i64 b).wf = true) (_w1 : (Lit.int .i64 i).wf = true) :
    Calls Try.prog 7 #[.int .i64 b, .int .i64 i] w fun e w' => e = .returned (.bool true) ∧ Below w.heap.size w w' := by
  have W0 := Lib.hid w0
  clear w0
  go_enter Try.func7, Try.ntmps7
  go_wp2_with (first | (go_at_call 24; refine (nhas _ _ _).mono ?_; rintro e w' ⟨rfl, rfl⟩) | (go_at_call 25; refine (rhas _ _ _).mono ?_; rintro e w' ⟨rfl, rfl⟩) | (go_at_call 26; refine (nbits _ _).mono ?_; rintro e w' ⟨rfl, rfl⟩) | (go_at_call 27; refine (rbits _ _).mono ?_; rintro e w' ⟨rfl, rfl⟩) | (go_at_call 28; refine (nwith _ _ _).mono ?_; rintro e w' ⟨rfl, rfl⟩) | (go_at_call 29; refine (rwith _ _ _ W0.out).mono ?_; rintro e w' ⟨rfl, rfl⟩) | (go_at_call 30; refine (nwithout _ _ _).mono ?_; rintro e w' ⟨rfl, rfl⟩) | (go_at_call 31; refine (rwithout _ _ _ W0.out).mono ?_; rintro e w' ⟨rfl, rfl⟩) | (go_at_call 20; refine (awake _).mono ?_; rintro e w' ⟨rfl, hb⟩))
  go_ret
  exact ⟨rfl, by assumption⟩

end Go.Proofs.Ytbdlhcgilcpeoaa.W
