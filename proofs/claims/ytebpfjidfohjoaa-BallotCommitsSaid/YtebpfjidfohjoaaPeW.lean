/- LAYER 12 (peers): the program's Check, Has, Count, Quorum, All, Change; the reference's Check, Has, All, Change: no memory. -/
import Derived.Test.YtebpfjidfohjoaaNumsWb
import Derived.Test.YtebpfjidfohjoaaPeP
set_option linter.unusedSimpArgs false
set_option linter.unusedVariables false
namespace Go.Proofs.Ytebpfjidfohjoaa.W
open Go Go.ChangeShapes Go.WideShapes Go.ChangeAt Go.RowKit
open Go.Proofs.Ytebpfjidfohjoaa.B (hasV elV bitsV mem mem_and mem_ref cntM cnt T bits_127 cntM_le)

/-- may it be members: the error's number -/
def chkM (c : Int) : Int := if 1 ≤ c ∧ c ≤ 127 then 0 else 1
set_option maxHeartbeats 4000000 in
theorem phas (c i : Int) (w : World) : Calls Try.prog 30 #[.int .i64 c, .int .i64 i] w fun e w' => e = .returned (.bool (mem c i)) ∧ w = w' := by
  go_enter Try.func30, Try.ntmps30
  go_wp2_with (go_at_call 35; refine (nhas _ i _).mono ?_; rintro e w' ⟨rfl, rfl⟩)
  go_ret
  exact ⟨one (vbool (mem_and c i)), rfl⟩
set_option maxHeartbeats 4000000 in
theorem uhas (c i : Int) (w : World) : Calls Try.prog 28 #[.int .i64 c, .int .i64 i] w fun e w' => e = .returned (.bool (mem c i)) ∧ w = w' := by
  by_cases h : 0 ≤ i ∧ i ≤ 6
  · obtain ⟨h0, h1⟩ := h
    have hm : mem c i = hasV c i := by rw [← mem_ref, decide_eq_true h0, decide_eq_true h1]; rfl
    have HM := Lib.hid hm
    clear hm
    go_enter Try.func28, Try.ntmps28
    go_wp2_with (go_at_call 34; refine (rhas _ i _).mono ?_; rintro e w' ⟨rfl, rfl⟩)
    go_ret
    exact ⟨one (vbool HM.out.symm), rfl⟩
  · have hm : mem c i = false := by unfold mem; rw [decide_eq_false h]; rfl
    have HM := Lib.hid hm
    clear hm
    by_cases h0 : 0 ≤ i
    · have h1 : ¬ i ≤ 6 := fun h1 => h ⟨h0, h1⟩
      clear h
      go_enter Try.func28, Try.ntmps28
      go_wp2
      go_ret
      exact ⟨one (vbool HM.out.symm), rfl⟩
    · clear h
      go_enter Try.func28, Try.ntmps28
      go_wp2
      go_ret
      exact ⟨one (vbool HM.out.symm), rfl⟩
set_option maxHeartbeats 4000000 in
theorem pcount (c : Int) (w : World) : Calls Try.prog 27 #[.int .i64 c] w fun e w' => e = .returned (.int .i64 (cntM c : Int)) ∧ w = w' := by
  have HB := Lib.hid (bits_127 c)
  go_enter Try.func27, Try.ntmps27
  go_wp2_with (go_at_call 33; refine (nbits _ _).mono ?_; rw [HB.out]; rintro e w' ⟨rfl, rfl⟩)
  go_ret
  exact ⟨rfl, rfl⟩
/-- are more than half of the members in yes -/
def quoM (c y : Int) : Bool := decide (cntM c < 2 * cnt (fun k => mem c (k : Int) && mem y (k : Int)) 7)
theorem cnt_and (c y : Int) : cntM (bits .and .i64 c y) = cnt (fun k => mem c (k : Int) && mem y (k : Int)) 7 := by
  unfold cntM; exact B.cnt_congr _ _ 7 fun k _ => B.mem_and2 c y k
set_option maxHeartbeats 4000000 in
theorem pquorum (c y : Int) (w : World) : Calls Try.prog 19 #[.int .i64 c, .int .i64 y] w fun e w' => e = .returned (.bool (quoM c y)) ∧ w = w' := by
  obtain ⟨n, hn⟩ : ∃ n, cntM (bits .and .i64 c y) = n := ⟨_, rfl⟩
  obtain ⟨m, hm⟩ : ∃ m, cntM c = m := ⟨_, rfl⟩
  have hq : quoM c y = decide (m < 2 * n) := by unfold quoM; rw [← cnt_and, hm, hn]
  have hn7 : n ≤ 7 := by rw [← hn]; exact cntM_le _
  have HN := Lib.hid hn
  have HM := Lib.hid hm
  have HQ := Lib.hid hq
  clear hn hm hq
  go_enter Try.func19, Try.ntmps19
  go_wp2_with (first
    | (go_at_call 27; refine (pcount (bits .and .i64 c y) _).mono ?_; rw [HN.out]; rintro e w' ⟨rfl, rfl⟩)
    | (go_at_call 27; refine (pcount c _).mono ?_; rw [HM.out]; rintro e w' ⟨rfl, rfl⟩))
  go_ret
  refine ⟨one (vbool ?_), rfl⟩
  rw [HQ.out, decide_eq_decide]
  omega
/-- all nodes below n -/
def allM (n : Int) : Int := if n ≤ 0 then 0 else if 7 ≤ n then 127 else 2 ^ n.toNat - 1
theorem all_cases (n : Int) : (n ≤ 0 ∧ allM n = 0) ∨ (n = 1 ∧ allM n = 1) ∨ (n = 2 ∧ allM n = 3) ∨ (n = 3 ∧ allM n = 7) ∨ (n = 4 ∧ allM n = 15) ∨ (n = 5 ∧ allM n = 31) ∨ (n = 6 ∧ allM n = 63) ∨ (7 ≤ n ∧ allM n = 127) := by
  by_cases h0 : n ≤ 0
  · exact .inl ⟨h0, by unfold allM; rw [if_pos h0]⟩
  · by_cases h7 : 7 ≤ n
    · exact .inr (.inr (.inr (.inr (.inr (.inr (.inr ⟨h7, by unfold allM; rw [if_neg h0, if_pos h7]⟩))))))
    · have : n = 1 ∨ n = 2 ∨ n = 3 ∨ n = 4 ∨ n = 5 ∨ n = 6 := by omega
      rcases this with rfl | rfl | rfl | rfl | rfl | rfl <;> simp [allM]
theorem all_step : ∀ k : Fin 7, bits .or .i64 (2 ^ k.val - 1) (elV (k.val : Int)) = 2 ^ (k.val + 1) - 1 := by decide
/-- may members become others: the error's number -/
def chgM (o c : Int) : Int := if chkM o = 0 ∧ chkM c = 0 ∧ cnt (fun k => mem o (k : Int) ^^ mem c (k : Int)) 7 = 1 then 0 else 19
theorem cnt_xor (c y : Int) : cntM (bits .xor .i64 c y) = cnt (fun k => mem c (k : Int) ^^ mem y (k : Int)) 7 := by
  unfold cntM; exact B.cnt_congr _ _ 7 fun k _ => B.mem_xor c y k
theorem chk01 (c : Int) : chkM c = 0 ∨ chkM c = 1 := by unfold chkM; split <;> simp
end Go.Proofs.Ytebpfjidfohjoaa.W
