/- THE LAW NumsPut of layer 1 (nums). -/
import Derived.Test.YtbdlhcgilcpeoaaNumsWc
namespace Go.Proofs.Ytbdlhcgilcpeoaa.W
open Go.ChangeShapes Go.WideShapes Go.ChangeAt Go.RowKit
open Go.Proofs.Ytbdlhcgilcpeoaa.B Go.Proofs.Ytbdlhcgilcpeoaa.S

theorem nhas_at (b i : Int) (x : Bool) (w : World) (h : hasV b i = x) :
    Calls Try.prog 24 #[.int .i64 b, .int .i64 i] w fun e w' => e = .returned (.bool x) ∧ w = w' := by subst h; exact nhas b i w
theorem nbits_at (b n : Int) (w : World) (h : (bitsV b : Int) = n) :
    Calls Try.prog 26 #[.int .i64 b] w fun e w' => e = .returned (.int .i64 n) ∧ w = w' := by subst h; exact nbits b w

set_option maxHeartbeats 1000000 in
theorem law_NumsPut (b i k : Int) (w : World) (w0 : (Lit.int .i64 b).wf = true) (_w1 : (Lit.int .i64 i).wf = true) (_w2 : (Lit.int .i64 k).wf = true) :
    Calls Try.prog 8 #[.int .i64 b, .int .i64 i, .int .i64 k] w fun e w' => e = .returned (.bool true) ∧ Below w.heap.size w w' := by
  obtain ⟨b1, b2⟩ := bd w0
  have ho := or_el b i b1 b2
  have ha := andNot_el b i b1 b2
  clear w0
  by_cases h : i < 0 ∨ 61 < i
  · have hn : hasV b i = false := by unfold hasV; simp; omega
    rw [if_neg (by omega)] at ho
    rw [if_neg (by rw [hn]; decide)] at ha
    have HO := Lib.hid ho
    have HA := Lib.hid ha
    clear ho ha hn b1 b2
    rcases h with h | h
    all_goals
      go_enter Try.func8, Try.ntmps8
      go_wp2_with (first | (go_at_call 28; refine (nwith _ _ _).mono ?_; rw [HO.out]; rintro e w' ⟨rfl, rfl⟩) | (go_at_call 30; refine (nwithout _ _ _).mono ?_; rw [HA.out]; rintro e w' ⟨rfl, rfl⟩) | (go_at_call 20; refine (awake _).mono ?_; rintro e w' ⟨rfl, hb⟩))
      go_ret
      exact ⟨rfl, by assumption⟩
  · have i0 : 0 ≤ i := by omega
    have i1 : i ≤ 61 := by omega
    obtain ⟨A, hA⟩ : ∃ A, bits .or .i64 b (elV i) = A := ⟨_, rfl⟩
    obtain ⟨N, hN⟩ : ∃ N, bits .andNot .i64 b (elV i) = N := ⟨_, rfl⟩
    obtain ⟨x, hx⟩ : ∃ x, hasV b k = x := ⟨_, rfl⟩
    obtain ⟨n, hn⟩ : ∃ n : Nat, bitsV N = n := ⟨_, rfl⟩
    have hn62 : n ≤ 62 := by rw [← hn]; exact bitsV_le N
    have e1 : hasV A i = true := by rw [← hA, has_or]; simp [i0, i1]
    have e2 : hasV N i = false := by rw [← hN, has_andNot]; simp [i0, i1]
    have e5 : (bitsV A : Int) = (n : Int) + 1 := by rw [← hA, bits_put b i i0 i1, hN, hn]; omega
    have e6 : (bitsV N : Int) = (n : Int) := by rw [hn]
    have HA := Lib.hid hA
    have HN := Lib.hid hN
    have HX := Lib.hid hx
    have E1 := Lib.hid e1
    have E2 := Lib.hid e2
    have E5 := Lib.hid e5
    have E6 := Lib.hid e6
    clear ho ha b1 b2 h e1 e2 e5 e6 hn
    by_cases hk : k = i
    · subst hk
      clear hA hN hx
      go_enter Try.func8, Try.ntmps8
      go_wp2_with fail
      refine (nwith _ _ _).mono ?_; rw [HA.out]; rintro e w' ⟨rfl, rfl⟩
      go_wp2_with fail
      refine (nwithout _ _ _).mono ?_; rw [HN.out]; rintro e w' ⟨rfl, rfl⟩
      go_wp2_with fail
      refine (nhas_at _ _ _ _ E1.out).mono ?_; rintro e w' ⟨rfl, rfl⟩
      go_wp2_with fail
      refine (nhas_at _ _ _ _ E2.out).mono ?_; rintro e w' ⟨rfl, rfl⟩
      go_wp2_with fail
      refine (nbits_at _ _ _ E5.out).mono ?_; rintro e w' ⟨rfl, rfl⟩
      go_wp2_with fail
      refine (nbits_at _ _ _ E6.out).mono ?_; rintro e w' ⟨rfl, rfl⟩
      go_wp2_with (go_at_call 20; refine (awake _).mono ?_; rintro e w' ⟨rfl, hb⟩)
      go_ret
      exact ⟨rfl, by assumption⟩
    · have hki : (k == i) = false := by simpa using hk
      have e3 : hasV A k = x := by rw [← hA, has_or, hx]; simp [hk]
      have e4 : hasV N k = x := by rw [← hN, has_andNot, hx]; simp [hk]
      have E3 := Lib.hid e3
      have E4 := Lib.hid e4
      clear e3 e4 hA hN hx
      go_enter Try.func8, Try.ntmps8
      go_wp2_with fail
      refine (nwith _ _ _).mono ?_; rw [HA.out]; rintro e w' ⟨rfl, rfl⟩
      go_wp2_with fail
      refine (nwithout _ _ _).mono ?_; rw [HN.out]; rintro e w' ⟨rfl, rfl⟩
      go_wp2_with fail
      refine (nhas_at _ _ _ _ E1.out).mono ?_; rintro e w' ⟨rfl, rfl⟩
      go_wp2_with fail
      refine (nhas_at _ _ _ _ E2.out).mono ?_; rintro e w' ⟨rfl, rfl⟩
      go_wp2_with fail
      refine (nbits_at _ _ _ E5.out).mono ?_; rintro e w' ⟨rfl, rfl⟩
      go_wp2_with fail
      refine (nbits_at _ _ _ E6.out).mono ?_; rintro e w' ⟨rfl, rfl⟩
      go_wp2_with fail
      refine (nhas_at _ _ _ _ E3.out).mono ?_; rintro e w' ⟨rfl, rfl⟩
      go_wp2_with fail
      refine (nhas_at _ _ _ _ HX.out).mono ?_; rintro e w' ⟨rfl, rfl⟩
      go_wp2_with fail
      refine (nhas_at _ _ _ _ E4.out).mono ?_; rintro e w' ⟨rfl, rfl⟩
      go_wp2_with fail
      refine (nhas_at _ _ _ _ HX.out).mono ?_; rintro e w' ⟨rfl, rfl⟩
      go_wp2_with (go_at_call 20; refine (awake _).mono ?_; rintro e w' ⟨rfl, hb⟩)
      go_ret
      exact ⟨rfl, by assumption⟩

end Go.Proofs.Ytbdlhcgilcpeoaa.W
