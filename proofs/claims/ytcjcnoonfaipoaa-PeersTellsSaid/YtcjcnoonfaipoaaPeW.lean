/- LAYER 12 (peers): the program's Check, Has, Count, Quorum, All, Change; the reference's Check, Has, All, Change: no memory. -/
import Derived.Test.YtcjcnoonfaipoaaNumsWb
import Derived.Test.YtcjcnoonfaipoaaPeP
set_option linter.unusedSimpArgs false
set_option linter.unusedVariables false
namespace Go.Proofs.Ytcjcnoonfaipoaa.W
open Go Go.ChangeShapes Go.WideShapes Go.ChangeAt Go.RowKit
open Go.Proofs.Ytcjcnoonfaipoaa.B (hasV elV bitsV mem mem_and mem_ref cntM cnt T bits_127 cntM_le)

/-- may it be members: the error's number -/
def chkM (c : Int) : Int := if 1 ≤ c ∧ c ≤ 127 then 0 else 1
set_option maxHeartbeats 4000000 in
theorem pcheck (c : Int) (w : World) : Calls Try.prog 7 #[.int .i64 c] w fun e w' => e = .returned (.int .i64 (chkM c)) ∧ w = w' := by
  by_cases h : 1 ≤ c ∧ c ≤ 127
  · have hd : (decide (1 ≤ c) && decide (c ≤ 127)) = true := by simp; omega
    have HD := Lib.hid hd
    have HC := Lib.hid (show chkM c = 0 by unfold chkM; rw [if_pos h])
    clear h hd
    go_enter Try.func7, Try.ntmps7
    go_wp2_with (go_at_call 25; refine (within c 1 127 _).mono ?_; rw [HD.out]; rintro e w' ⟨rfl, rfl⟩)
    go_ret
    exact ⟨one (vint HC.out.symm), rfl⟩
  · have hd : (decide (1 ≤ c) && decide (c ≤ 127)) = false := by simp; omega
    have HD := Lib.hid hd
    have HC := Lib.hid (show chkM c = 1 by unfold chkM; rw [if_neg h])
    clear h hd
    go_enter Try.func7, Try.ntmps7
    go_wp2_with (go_at_call 25; refine (within c 1 127 _).mono ?_; rw [HD.out]; rintro e w' ⟨rfl, rfl⟩)
    go_ret
    exact ⟨one (vint HC.out.symm), rfl⟩
set_option maxHeartbeats 4000000 in
theorem ucheck (c : Int) (w : World) : Calls Try.prog 8 #[.int .i64 c] w fun e w' => e = .returned (.int .i64 (chkM c)) ∧ w = w' := by
  go_enter Try.func8, Try.ntmps8
  go_wp2
  all_goals
    go_ret
    exact ⟨one (vint (by unfold chkM; first | rw [if_pos (by omega)] | rw [if_neg (by omega)])), rfl⟩
set_option maxHeartbeats 4000000 in
theorem phas (c i : Int) (w : World) : Calls Try.prog 9 #[.int .i64 c, .int .i64 i] w fun e w' => e = .returned (.bool (mem c i)) ∧ w = w' := by
  go_enter Try.func9, Try.ntmps9
  go_wp2_with (go_at_call 26; refine (nhas _ i _).mono ?_; rintro e w' ⟨rfl, rfl⟩)
  go_ret
  exact ⟨one (vbool (mem_and c i)), rfl⟩
set_option maxHeartbeats 4000000 in
theorem uhas (c i : Int) (w : World) : Calls Try.prog 10 #[.int .i64 c, .int .i64 i] w fun e w' => e = .returned (.bool (mem c i)) ∧ w = w' := by
  by_cases h : 0 ≤ i ∧ i ≤ 6
  · obtain ⟨h0, h1⟩ := h
    have hm : mem c i = hasV c i := by rw [← mem_ref, decide_eq_true h0, decide_eq_true h1]; rfl
    have HM := Lib.hid hm
    clear hm
    go_enter Try.func10, Try.ntmps10
    go_wp2_with (go_at_call 27; refine (rhas _ i _).mono ?_; rintro e w' ⟨rfl, rfl⟩)
    go_ret
    exact ⟨one (vbool HM.out.symm), rfl⟩
  · have hm : mem c i = false := by unfold mem; rw [decide_eq_false h]; rfl
    have HM := Lib.hid hm
    clear hm
    by_cases h0 : 0 ≤ i
    · have h1 : ¬ i ≤ 6 := fun h1 => h ⟨h0, h1⟩
      clear h
      go_enter Try.func10, Try.ntmps10
      go_wp2
      go_ret
      exact ⟨one (vbool HM.out.symm), rfl⟩
    · clear h
      go_enter Try.func10, Try.ntmps10
      go_wp2
      go_ret
      exact ⟨one (vbool HM.out.symm), rfl⟩
set_option maxHeartbeats 4000000 in
theorem pcount (c : Int) (w : World) : Calls Try.prog 11 #[.int .i64 c] w fun e w' => e = .returned (.int .i64 (cntM c : Int)) ∧ w = w' := by
  have HB := Lib.hid (bits_127 c)
  go_enter Try.func11, Try.ntmps11
  go_wp2_with (go_at_call 28; refine (nbits _ _).mono ?_; rw [HB.out]; rintro e w' ⟨rfl, rfl⟩)
  go_ret
  exact ⟨rfl, rfl⟩
/-- are more than half of the members in yes -/
def quoM (c y : Int) : Bool := decide (cntM c < 2 * cnt (fun k => mem c (k : Int) && mem y (k : Int)) 7)
theorem cnt_and (c y : Int) : cntM (bits .and .i64 c y) = cnt (fun k => mem c (k : Int) && mem y (k : Int)) 7 := by
  unfold cntM; exact B.cnt_congr _ _ 7 fun k _ => B.mem_and2 c y k
set_option maxHeartbeats 4000000 in
theorem pquorum (c y : Int) (w : World) : Calls Try.prog 13 #[.int .i64 c, .int .i64 y] w fun e w' => e = .returned (.bool (quoM c y)) ∧ w = w' := by
  obtain ⟨n, hn⟩ : ∃ n, cntM (bits .and .i64 c y) = n := ⟨_, rfl⟩
  obtain ⟨m, hm⟩ : ∃ m, cntM c = m := ⟨_, rfl⟩
  have hq : quoM c y = decide (m < 2 * n) := by unfold quoM; rw [← cnt_and, hm, hn]
  have hn7 : n ≤ 7 := by rw [← hn]; exact cntM_le _
  have HN := Lib.hid hn
  have HM := Lib.hid hm
  have HQ := Lib.hid hq
  clear hn hm hq
  go_enter Try.func13, Try.ntmps13
  go_wp2_with (first
    | (go_at_call 11; refine (pcount (bits .and .i64 c y) _).mono ?_; rw [HN.out]; rintro e w' ⟨rfl, rfl⟩)
    | (go_at_call 11; refine (pcount c _).mono ?_; rw [HM.out]; rintro e w' ⟨rfl, rfl⟩))
  go_ret
  refine ⟨one (vbool ?_), rfl⟩
  rw [HQ.out, decide_eq_decide]
  omega
/-- all nodes below n -/
def allM (n : Int) : Int := if n ≤ 0 then 0 else if 7 ≤ n then 127 else 2 ^ n.toNat - 1
theorem all_cases (n : Int) : (n ≤ 0 ∧ allM n = 0) ∨ (n = 1 ∧ allM n = 1) ∨ (n = 2 ∧ allM n = 3) ∨ (n = 3 ∧ allM n = 7) ∨ (n = 4 ∧ allM n = 15) ∨ (n = 5 ∧ allM n = 31) ∨ (n = 6 ∧ allM n = 63) ∨ (7 ≤ n ∧ allM n = 127) := by
  by_cases h0 : n ≤ 0
  · exact .inl ⟨h0, by unfold allM; rw [if_pos h0]⟩
  · by_cases h7 : 7 ≤ n
    · exact .inr (.inr (.inr (.inr (.inr (.inr (.inr ⟨h7, by unfold allM; rw [if_neg h0, if_pos h7]⟩))))))
    · have : n = 1 ∨ n = 2 ∨ n = 3 ∨ n = 4 ∨ n = 5 ∨ n = 6 := by omega
      rcases this with rfl | rfl | rfl | rfl | rfl | rfl <;> simp [allM]
theorem all_step : ∀ k : Fin 7, bits .or .i64 (2 ^ k.val - 1) (elV (k.val : Int)) = 2 ^ (k.val + 1) - 1 := by decide
set_option maxHeartbeats 4000000 in
theorem pall (n : Int) (w : World) : Calls Try.prog 15 #[.int .i64 n] w fun e w' => e = .returned (.int .i64 (allM n)) ∧ w = w' := by
  rcases all_cases n with ⟨h, e⟩ | ⟨rfl, e⟩ | ⟨rfl, e⟩ | ⟨rfl, e⟩ | ⟨rfl, e⟩ | ⟨rfl, e⟩ | ⟨rfl, e⟩ | ⟨h, e⟩
  all_goals
    rw [e]
    clear e
    go_enter Try.func15, Try.ntmps15
    go_wp2
    all_goals first
      | (exfalso; omega)
      | (go_ret; exact ⟨rfl, rfl⟩)
      | (go_ret; exact ⟨one (vint (by decide +kernel)), rfl⟩)
      | (obtain rfl : n = 0 := (by omega); go_ret; exact ⟨one (vint (by decide +kernel)), rfl⟩)
      | (obtain rfl : n = 7 := (by omega); go_ret; exact ⟨one (vint (by decide +kernel)), rfl⟩)
set_option maxHeartbeats 4000000 in
theorem uall (n : Int) (w : World) : Calls Try.prog 16 #[.int .i64 n] w fun e w' => e = .returned (.int .i64 (allM n)) ∧ w = w' := by
  obtain ⟨m, hm7, hm, hA⟩ : ∃ m : Nat, m ≤ 7 ∧ (∀ k : Nat, k ≤ m → ((k < 7 ∧ (k : Int) < n) ↔ k < m)) ∧ allM n = 2 ^ m - 1 := by
    rcases all_cases n with ⟨h, e⟩ | ⟨rfl, e⟩ | ⟨rfl, e⟩ | ⟨rfl, e⟩ | ⟨rfl, e⟩ | ⟨rfl, e⟩ | ⟨rfl, e⟩ | ⟨h, e⟩
    · exact ⟨0, by omega, by omega, e⟩
    · exact ⟨1, by omega, by omega, e⟩
    · exact ⟨2, by omega, by omega, e⟩
    · exact ⟨3, by omega, by omega, e⟩
    · exact ⟨4, by omega, by omega, e⟩
    · exact ⟨5, by omega, by omega, e⟩
    · exact ⟨6, by omega, by omega, e⟩
    · exact ⟨7, by omega, by omega, e⟩
  rw [hA]
  clear hA
  go_enter Try.func16, Try.ntmps16
  go_wp2
  go_loop [3, 4] (fun c i => ∃ k : Nat, k ≤ m ∧ i = .int .i64 k ∧ c = .int .i64 (2 ^ k - 1)) (fun _ i => m - (intOf i).toNat)
  case atStart => exact ⟨0, Nat.zero_le _, rfl, rfl⟩
  case round =>
    obtain ⟨k, hk, rfl, rfl⟩ := hrel
    have hkm := hm k hk
    by_cases hlt : k < m
    · obtain ⟨h1, h2⟩ := hkm.2 hlt
      have hs := all_step ⟨k, h1⟩
      dsimp only at hs
      have HS := Lib.hid hs
      have hp : (1 : Int) ≤ 2 ^ k ∧ (2 : Int) ^ k ≤ 64 := by
        have : ∀ j : Fin 7, (1 : Int) ≤ 2 ^ j.val ∧ (2 : Int) ^ j.val ≤ 64 := by decide
        exact this ⟨k, h1⟩
      obtain ⟨X, hX⟩ : ∃ X : Int, 2 ^ k - 1 = X := ⟨_, rfl⟩
      rw [hX] at HS
      have hXb : 0 ≤ X ∧ X ≤ 63 := by omega
      rw [hX]
      have hw : (Lit.int .i64 X).wf = true := by simp [Lit.wf, IntKind.min, IntKind.max, IntKind.bits, IntKind.signed]; omega
      clear hkm hs hp hX hm
      go_wp2_with (go_at_call 29; refine (rwith X k _ hw).mono ?_; rw [HS.out]; rintro e w' ⟨rfl, rfl⟩)
      go_round
      case rel => exact ⟨k + 1, by omega, by go_num, rfl⟩
      case measure => simp [intOf]; omega
    · obtain rfl : k = m := by omega
      by_cases h7 : k < 7
      · have h8 : ¬ (k : Int) < n := fun h => hlt (hkm.1 ⟨h7, h⟩)
        clear hkm hm
        go_wp2
        go_ret
        exact ⟨rfl, rfl⟩
      · clear hkm hm
        go_wp2
        go_ret
        exact ⟨rfl, rfl⟩
/-- may members become others: the error's number -/
def chgM (o c : Int) : Int := if chkM o = 0 ∧ chkM c = 0 ∧ cnt (fun k => mem o (k : Int) ^^ mem c (k : Int)) 7 = 1 then 0 else 19
theorem cnt_xor (c y : Int) : cntM (bits .xor .i64 c y) = cnt (fun k => mem c (k : Int) ^^ mem y (k : Int)) 7 := by
  unfold cntM; exact B.cnt_congr _ _ 7 fun k _ => B.mem_xor c y k
theorem chk01 (c : Int) : chkM c = 0 ∨ chkM c = 1 := by unfold chkM; split <;> simp
set_option maxHeartbeats 4000000 in
theorem pchange (o c : Int) (w : World) : Calls Try.prog 23 #[.int .i64 o, .int .i64 c] w fun e w' => e = .returned (.int .i64 (chgM o c)) ∧ w = w' := by
  obtain ⟨n, hn⟩ : ∃ n, cntM (bits .xor .i64 o c) = n := ⟨_, rfl⟩
  have hq : chgM o c = if chkM o = 0 ∧ chkM c = 0 ∧ n = 1 then 0 else 19 := by unfold chgM; rw [← cnt_xor, hn]
  have HN := Lib.hid hn
  have HQ := Lib.hid hq
  clear hn hq
  rcases chk01 o with ho | ho <;> rcases chk01 c with hc | hc
  all_goals
    have HO := Lib.hid ho
    have HC := Lib.hid hc
    clear ho hc
  · by_cases h1 : n = 1
    · subst h1
      go_enter Try.func23, Try.ntmps23
      go_wp2_with (first
        | (go_at_call 7; refine (pcheck o _).mono ?_; rw [HO.out]; rintro e w' ⟨rfl, rfl⟩)
        | (go_at_call 7; refine (pcheck c _).mono ?_; rw [HC.out]; rintro e w' ⟨rfl, rfl⟩)
        | (go_at_call 11; refine (pcount (bits .xor .i64 o c) _).mono ?_; rw [HN.out]; rintro e w' ⟨rfl, rfl⟩))
      go_ret
      exact ⟨one (vint (by rw [HQ.out, HO.out, HC.out]; simp)), rfl⟩
    · have h2 : ((n : Int) != 1) = true := by simp; omega
      go_enter Try.func23, Try.ntmps23
      go_wp2_with (first
        | (go_at_call 7; refine (pcheck o _).mono ?_; rw [HO.out]; rintro e w' ⟨rfl, rfl⟩)
        | (go_at_call 7; refine (pcheck c _).mono ?_; rw [HC.out]; rintro e w' ⟨rfl, rfl⟩)
        | (go_at_call 11; refine (pcount (bits .xor .i64 o c) _).mono ?_; rw [HN.out]; rintro e w' ⟨rfl, rfl⟩))
      go_ret
      exact ⟨one (vint (by rw [HQ.out, HO.out, HC.out, if_neg (by omega)])), rfl⟩
  all_goals
    go_enter Try.func23, Try.ntmps23
    go_wp2_with (first
      | (go_at_call 7; refine (pcheck o _).mono ?_; rw [HO.out]; rintro e w' ⟨rfl, rfl⟩)
      | (go_at_call 7; refine (pcheck c _).mono ?_; rw [HC.out]; rintro e w' ⟨rfl, rfl⟩))
    go_ret
    exact ⟨one (vint (by rw [HQ.out, HO.out, HC.out]; simp)), rfl⟩
end Go.Proofs.Ytcjcnoonfaipoaa.W
