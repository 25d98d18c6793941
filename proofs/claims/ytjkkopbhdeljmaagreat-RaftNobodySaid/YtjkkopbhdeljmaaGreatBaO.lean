/- LAYER 15 (ballot): plain; what the program owes; Won, Commit, Back of the reference. LAYER 15 (ballot): the program's functions keep what they owe. -/
import Derived.Test.YtjkkopbhdeljmaaGreatPeL
set_option linter.unusedSimpArgs false
set_option linter.unusedVariables false
namespace Go.Proofs.YtjkkopbhdeljmaaGreat.W
open Go Go.ChangeShapes Go.WideShapes Go.ChangeAt Go.RowKit
open Go.Proofs.YtjkkopbhdeljmaaGreat.B (Best)

def freshV (i t l lt : Int) : Bool := decide (lt < t) || (decide (t = lt) && decide (l ≤ i))
def timeV (n : Int) : Int := if n < 0 ∨ 6 < n then 10 else 10 + 3 * n
def commitV (b cm t ta : Int) : Int := if cm < b ∧ ta = t then b else cm
def heldV (n : Int) : Int := min (max n 0) 2147483648
def backV (nx m h : Int) : Int := max (heldV m + 1) (min (heldV h + 1) (max (heldV nx - 1) 1))
theorem heldV_le (n : Int) : 0 ≤ heldV n ∧ heldV n ≤ 2147483648 := by unfold heldV; omega
theorem heldV_in {n : Int} (h0 : 0 ≤ n) (h1 : n ≤ 2147483648) : heldV n = n := by unfold heldV; omega
theorem fresh_or (a b c d : Int) : (freshV a b c d || freshV c d a b) = true := by
  unfold freshV
  simp only [Bool.or_eq_true, Bool.and_eq_true, decide_eq_true_eq]; omega
theorem fresh_and (a b c d : Int) : (freshV a b c d && freshV c d a b) = (decide (a = c) && decide (b = d)) := by
  unfold freshV
  rw [Bool.eq_iff_iff]
  simp only [Bool.or_eq_true, Bool.and_eq_true, decide_eq_true_eq]; omega

def BaFreshP : Prop := ∀ (i t l lt : Int) (w : World), Calls Tryz.prog 108 #[.int .i64 i, .int .i64 t, .int .i64 l, .int .i64 lt] w fun e w' => e = .returned (.bool (freshV i t l lt)) ∧ Below w.heap.size w w'
def BaTimeP : Prop := ∀ (n : Int) (w : World), Calls Tryz.prog 28 #[.int .i64 n] w fun e w' => e = .returned (.int .i64 (timeV n)) ∧ Below w.heap.size w w'
def BaVoteP : Prop := ∀ (v f : Int) (fr : Bool) (w : World), 1 ≤ v → v ≤ 7 → Calls Tryz.prog 68 #[.int .i64 v, .int .i64 f, .bool fr] w fun e w' => e = .returned (.bool (fr && decide (v - 1 = f))) ∧ Below w.heap.size w w'
def BaWonP : Prop := ∀ (c v : Int) (w : World), Calls Tryz.prog 57 #[.int .i64 c, .int .i64 v] w fun e w' => e = .returned (.bool (quoM c v)) ∧ Below w.heap.size w w'
def BaCommitP : Prop := ∀ (c : Int) (ms : List Int) (cm t ta : Int) (w : World), ms.length = 7 → Calls Tryz.prog 81 #[.int .i64 c, .agg (ms.map (Value.int .i64)).toArray, .int .i64 cm, .int .i64 t, .int .i64 ta] w fun e w' => e = .returned (.int .i64 (commitV (bestV (vals c ms)) cm t ta)) ∧ Below w.heap.size w w'
def BaBackP : Prop := ∀ (nx m h : Int) (w : World), Calls Tryz.prog 75 #[.int .i64 nx, .int .i64 m, .int .i64 h] w fun e w' => e = .returned (.int .i64 (backV nx m h)) ∧ Below w.heap.size w w'

end Go.Proofs.YtjkkopbhdeljmaaGreat.W

namespace Go.Proofs.YtjkkopbhdeljmaaGreat.W
open Go Go.ChangeShapes Go.WideShapes Go.ChangeAt Go.RowKit
open Go.Proofs.YtjkkopbhdeljmaaGreat.B (Best)

set_option maxRecDepth 100000 in
set_option maxHeartbeats 4000000 in
theorem pFresh : BaFreshP := by
  intro i t l lt w
  obtain ⟨V, hV⟩ : ∃ V, freshV i t l lt = V := ⟨_, rfl⟩
  rw [hV]
  have HV := Lib.hid hV
  clear hV
  go_enter Tryz.func108, Tryz.ntmps108
  go_wp2_with fail
  all_goals
    go_ret
    refine ⟨one (vbool ?_), Below.refl _ _⟩
    rw [← HV.out]
    unfold freshV
    rw [Bool.eq_iff_iff]
    simp only [Bool.or_eq_true, Bool.and_eq_true, decide_eq_true_eq, Bool.true_eq_false, Bool.false_eq_true, true_iff, false_iff, beq_iff_eq]
    try omega
set_option maxRecDepth 100000 in
set_option maxHeartbeats 4000000 in
theorem pTime : BaTimeP := by
  intro n w
  obtain ⟨V, hV⟩ : ∃ V, timeV n = V := ⟨_, rfl⟩
  rw [hV]
  have HV := Lib.hid hV
  clear hV
  by_cases h : n < 0 ∨ 6 < n
  · have h2 := HV.out
    unfold timeV at h2
    rw [if_pos h] at h2
    subst h2
    rcases h with h | h
    all_goals
      go_enter Tryz.func28, Tryz.ntmps28
      go_wp2_with fail
      all_goals (go_ret; first | exact ⟨rfl, Below.refl _ _⟩ | (exfalso; omega))
  · have h2 := HV.out
    unfold timeV at h2
    rw [if_neg h] at h2
    subst h2
    obtain ⟨h0, h6⟩ : 0 ≤ n ∧ n ≤ 6 := by omega
    clear h
    go_enter Tryz.func28, Tryz.ntmps28
    go_wp2_with fail
    all_goals (go_ret; first | exact ⟨rfl, Below.refl _ _⟩ | exact ⟨one (vint (by omega)), Below.refl _ _⟩)
set_option maxRecDepth 100000 in
set_option maxHeartbeats 4000000 in
theorem pVote : BaVoteP := by
  intro v f fr w h1 h7
  cases fr
  · go_enter Tryz.func68, Tryz.ntmps68
    go_wp2_with fail
    all_goals (go_ret; first | exact ⟨rfl, Below.refl _ _⟩ | exact ⟨one (vbool (by simp)), Below.refl _ _⟩)
  · have h0 : (v == 0) = false := by simp; omega
    have h00 : ¬ (v = 0) := by omega
    by_cases hf : v - 1 = f
    · subst hf
      rw [decide_eq_true rfl]
      go_enter Tryz.func68, Tryz.ntmps68
      go_wp2_with fail
      all_goals (go_ret; first | exact ⟨rfl, Below.refl _ _⟩ | exact ⟨one (vbool (by simp)), Below.refl _ _⟩ | exact ⟨one (vbool (by rw [Bool.eq_iff_iff]; simp)), Below.refl _ _⟩ | (exfalso; omega))
    · rw [decide_eq_false hf]
      have hf2 : ((v - 1) == f) = false := by simpa using hf
      go_enter Tryz.func68, Tryz.ntmps68
      go_wp2_with fail
      all_goals (go_ret; first | exact ⟨rfl, Below.refl _ _⟩ | exact ⟨one (vbool (by simp)), Below.refl _ _⟩ | exact ⟨one (vbool (by rw [Bool.eq_iff_iff]; simp)), Below.refl _ _⟩ | (exfalso; omega))
set_option maxRecDepth 100000 in
set_option maxHeartbeats 4000000 in
theorem pWon : BaWonP := by
  intro c v w
  obtain ⟨q, hq⟩ : ∃ q, quoM c v = q := ⟨_, rfl⟩
  have HQ := Lib.hid (pquorum c v w)
  rw [hq] at HQ ⊢
  clear hq
  go_enter Tryz.func57, Tryz.ntmps57
  go_wp2_with (go_at_call 46; (with_reducible refine HQ.out.mono ?_); rintro e w1 ⟨rfl, rfl⟩)
  go_ret
  exact ⟨rfl, Below.refl _ _⟩
set_option maxRecDepth 100000 in
set_option maxHeartbeats 4000000 in
theorem pheldV (n : Int) (w : World) : Calls Tryz.prog 110 #[.int .i64 n] w fun e w' => e = .returned (.int .i64 (heldV n)) ∧ w = w' := by
  unfold heldV
  go_enter Tryz.func110, Tryz.ntmps110
  go_wp2_with fail
  all_goals
    go_ret
    exact ⟨one (vint (by (first | omega | (repeat' (first | omega | split at *))))), rfl⟩
set_option maxRecDepth 100000 in
set_option maxHeartbeats 4000000 in
theorem pBack : BaBackP := by
  intro nx m h w
  unfold backV
  obtain ⟨a, ha⟩ : ∃ a, heldV m = a := ⟨_, rfl⟩
  obtain ⟨b, hb⟩ : ∃ b, heldV h = b := ⟨_, rfl⟩
  obtain ⟨c, hc⟩ : ∃ c, heldV nx = c := ⟨_, rfl⟩
  have a0 := heldV_le m
  have b0 := heldV_le h
  have c0 := heldV_le nx
  have HA := Lib.hid (pheldV m w)
  have HB := Lib.hid (pheldV h w)
  have HC := Lib.hid (pheldV nx w)
  rw [ha] at a0 HA ⊢; rw [hb] at b0 HB ⊢; rw [hc] at c0 HC ⊢
  clear ha hb hc
  obtain ⟨a1, a2⟩ := a0
  obtain ⟨b1, b2⟩ := b0
  obtain ⟨c1, c2⟩ := c0
  go_enter Tryz.func75, Tryz.ntmps75
  go_wp2_with (first
    | (go_at_call 110; (with_reducible refine HA.out.mono ?_); rintro e w' ⟨rfl, rfl⟩)
    | (go_at_call 110; (with_reducible refine HB.out.mono ?_); rintro e w' ⟨rfl, rfl⟩)
    | (go_at_call 110; (with_reducible refine HC.out.mono ?_); rintro e w' ⟨rfl, rfl⟩))
  all_goals
    go_ret
    exact ⟨one (vint (by (first | omega | (repeat' (first | omega | split at *))))), Below.refl _ _⟩
set_option maxRecDepth 100000 in
set_option maxHeartbeats 4000000 in
theorem pCommit : BaCommitP := by
  intro c ms cm t ta w hms
  obtain ⟨b, hb⟩ : ∃ b, bestV (vals c ms) = b := ⟨_, rfl⟩
  have HU := Lib.hid (fun w => pmatch_v c ms hms w)
  rw [hb] at HU ⊢
  obtain ⟨L, hL⟩ : ∃ L, ms.map (Value.int .i64) = L := ⟨_, rfl⟩
  have HS := Lib.hid (sevenSize ms hms)
  rw [hL] at HU HS ⊢
  clear hb hms hL
  obtain ⟨V, hV⟩ : ∃ V, commitV b cm t ta = V := ⟨_, rfl⟩
  rw [hV]
  have HV := Lib.hid hV
  clear hV
  by_cases h1 : cm < b <;> by_cases h2 : ta = t
  all_goals
    have HV2 := HV.out
    unfold commitV at HV2
  · rw [if_pos ⟨h1, h2⟩] at HV2
    subst h2 HV2
    go_enter Tryz.func81, Tryz.ntmps81
    go_wp2_with (first
      | ((with_reducible refine box_row (o := ⟨some 6, _, _, _, _, _⟩) rfl _ _ rfl L rfl ?_); intro w1 hr1 hb1 hz1; have HR1 := Lib.hid hr1; have HB1 := Lib.hid hb1; clear hr1 hb1 hz1)
      | ((with_reducible refine load_row (o := ⟨some 13, _, _, _, _, _⟩) rfl _ _ rfl w.heap.size ?_ _ L _ HR1.out Tryz.underlying53 rfl HS.out ?_); (focus go_simp))
      | (go_at_call 80; (with_reducible refine (HU.out w1).mono ?_); rintro e w2 ⟨rfl, hb2⟩; have HB2 := Lib.hid (HB1.out.trans (hb2.mono HB1.out.size)); clear hb2))
    go_ret
    exact ⟨rfl, HB2.out⟩
  all_goals
    rw [if_neg (by omega)] at HV2
    subst HV2
    go_enter Tryz.func81, Tryz.ntmps81
    go_wp2_with (first
      | ((with_reducible refine box_row (o := ⟨some 6, _, _, _, _, _⟩) rfl _ _ rfl L rfl ?_); intro w1 hr1 hb1 hz1; have HR1 := Lib.hid hr1; have HB1 := Lib.hid hb1; clear hr1 hb1 hz1)
      | ((with_reducible refine load_row (o := ⟨some 13, _, _, _, _, _⟩) rfl _ _ rfl w.heap.size ?_ _ L _ HR1.out Tryz.underlying53 rfl HS.out ?_); (focus go_simp))
      | (go_at_call 80; (with_reducible refine (HU.out w1).mono ?_); rintro e w2 ⟨rfl, hb2⟩; have HB2 := Lib.hid (HB1.out.trans (hb2.mono HB1.out.size)); clear hb2))
    all_goals (go_ret; exact ⟨rfl, HB2.out⟩)
end Go.Proofs.YtjkkopbhdeljmaaGreat.W
