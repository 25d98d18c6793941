/- LAYER 12 (peers): the reference's Change. -/
import Derived.Test.YtcjcnoonfaipoaaPeW
set_option linter.unusedSimpArgs false
set_option linter.unusedVariables false
namespace Go.Proofs.Ytcjcnoonfaipoaa.W
open Go Go.ChangeShapes Go.WideShapes Go.ChangeAt Go.RowKit
open Go.Proofs.Ytcjcnoonfaipoaa.B (hasV elV bitsV mem mem_and mem_ref cntM cnt T bits_127 cntM_le)

set_option maxHeartbeats 4000000 in
theorem uchange (o c : Int) (w : World) : Calls Try.prog 24 #[.int .i64 o, .int .i64 c] w fun e w' => e = .returned (.int .i64 (chgM o c)) ∧ w = w' := by
  obtain ⟨f, hf⟩ : ∃ f : Nat → Bool, (fun k : Nat => mem o (k : Int) ^^ mem c (k : Int)) = f := ⟨_, rfl⟩
  have hq : chgM o c = if chkM o = 0 ∧ chkM c = 0 ∧ cnt f 7 = 1 then 0 else 19 := by unfold chgM; rw [hf]
  have HQ := Lib.hid hq
  have HF := Lib.hid (fun k : Nat => (congrFun hf k : (mem o (k : Int) ^^ mem c (k : Int)) = f k))
  clear hq hf
  go_enter Try.func24, Try.ntmps24
  go_wp2
  go_loop [5, 6] (fun m i => ∃ k : Nat, k ≤ 7 ∧ i = .int .i64 k ∧ m = .int .i64 (cnt f k : Int)) (fun _ i => 7 - (intOf i).toNat)
  case atStart => exact ⟨0, Nat.zero_le _, rfl, rfl⟩
  case round =>
    obtain ⟨k, hk, rfl, rfl⟩ := hrel
    have hc := B.cnt_le f k
    by_cases hlt : k < 7
    · have hs : cnt f (k + 1) = cnt f k + if f k = true then 1 else 0 := rfl
      have hfk := HF.out k
      obtain ⟨A1, hA1⟩ : ∃ A1, mem o (k : Int) = A1 := ⟨_, rfl⟩
      obtain ⟨C1, hC1⟩ : ∃ C1, mem c (k : Int) = C1 := ⟨_, rfl⟩
      rw [hA1, hC1] at hfk
      rw [← hfk] at hs
      have HA := Lib.hid hA1
      have HC := Lib.hid hC1
      clear hfk hA1 hC1
      cases A1 <;> cases C1
      all_goals
        have HS := Lib.hid hs
        clear hs
        go_wp2_with (first
          | (go_at_call 10; with_reducible refine (uhas o (k : Int) _).mono ?_; rw [HA.out]; rintro e w' ⟨rfl, rfl⟩)
          | (go_at_call 10; with_reducible refine (uhas c (k : Int) _).mono ?_; rw [HC.out]; rintro e w' ⟨rfl, rfl⟩))
        go_round
        case rel => exact ⟨k + 1, by omega, by go_num, by rw [HS.out]; first | rfl | go_num⟩
        case measure => simp [intOf]; omega
    · obtain rfl : k = 7 := by omega
      obtain ⟨n, hn⟩ : ∃ n, cnt f 7 = n := ⟨_, rfl⟩
      rw [hn] at HQ hc ⊢
      clear hn
      rcases chk01 o with ho | ho <;> rcases chk01 c with hcc | hcc
      all_goals
        have HO := Lib.hid ho
        have HC := Lib.hid hcc
        clear ho hcc
      · by_cases h1 : n = 1
        · subst h1
          go_wp2_with (first
            | (go_at_call 8; with_reducible refine (ucheck o _).mono ?_; rw [HO.out]; rintro e w' ⟨rfl, rfl⟩)
            | (go_at_call 8; with_reducible refine (ucheck c _).mono ?_; rw [HC.out]; rintro e w' ⟨rfl, rfl⟩))
          go_ret
          exact ⟨one (vint (by rw [HQ.out, HO.out, HC.out]; simp)), rfl⟩
        · have h2 : ((n : Int) != 1) = true := by simp; omega
          go_wp2_with (first
            | (go_at_call 8; with_reducible refine (ucheck o _).mono ?_; rw [HO.out]; rintro e w' ⟨rfl, rfl⟩)
            | (go_at_call 8; with_reducible refine (ucheck c _).mono ?_; rw [HC.out]; rintro e w' ⟨rfl, rfl⟩))
          go_ret
          exact ⟨one (vint (by rw [HQ.out, HO.out, HC.out, if_neg (by omega)])), rfl⟩
      all_goals
        go_wp2_with (first
          | (go_at_call 8; with_reducible refine (ucheck o _).mono ?_; rw [HO.out]; rintro e w' ⟨rfl, rfl⟩)
          | (go_at_call 8; with_reducible refine (ucheck c _).mono ?_; rw [HC.out]; rintro e w' ⟨rfl, rfl⟩))
        go_ret
        exact ⟨one (vint (by rw [HQ.out, HO.out, HC.out]; simp)), rfl⟩
end Go.Proofs.Ytcjcnoonfaipoaa.W
