/- LAYER 15 (ballot): the laws Back, Rises, Commits, out of what the program owes. -/
import Derived.Test.YtebpfjidfohjoaaBaL
import Derived.Test.YtebpfjidfohjoaaLg
set_option linter.unusedSimpArgs false
set_option linter.unusedVariables false
namespace Go.Proofs.Ytebpfjidfohjoaa.W
open Go Go.ChangeShapes Go.WideShapes Go.ChangeAt Go.RowKit
open Go.Proofs.Ytebpfjidfohjoaa.B (Best)

theorem back_one (nx m h : Int) : 1 ≤ backV nx m h ∧ backV nx m h ≤ 2147483649 := by
  have := heldV_le m; have := heldV_le h; have := heldV_le nx
  unfold backV; omega
theorem back_lo {nx m h : Int} (h0 : 0 ≤ m) (h1 : m ≤ 2147483648) : m + 1 ≤ backV nx m h := by
  unfold backV; rw [heldV_in h0 h1]; omega
theorem back_hi {nx m h : Int} (h0 : 2 ≤ nx) (h1 : nx ≤ 2147483648) (h2 : 0 ≤ m) (h3 : m < nx - 1) : backV nx m h ≤ nx - 1 := by
  have := heldV_le h
  unfold backV; rw [heldV_in h2 (by omega), heldV_in (by omega) h1]; omega
set_option maxRecDepth 100000 in
set_option maxHeartbeats 4000000 in
theorem back_of15 (F : BaFreshP) (V : BaVoteP) (T : BaTimeP) (B : BaBackP) (nx m h : Int) (w : World) (w0 : (Lit.int .i64 nx).wf = true) (w1 : (Lit.int .i64 m).wf = true) :
    Calls Try.prog 6 #[.int .i64 nx, .int .i64 m, .int .i64 h] w fun e w' => e = .returned (.bool true) ∧ Below w.heap.size w w' := by
  have AW := Lib.hid (awake15 F V T)
  have BB := Lib.hid (B nx m h w)
  have f1 := (back_one nx m h).1
  have f2 := (back_one nx m h).2
  have f3 : 0 ≤ m ∧ m ≤ 2147483648 → m + 1 ≤ backV nx m h := fun h => back_lo h.1 h.2
  have f4 : (2 ≤ nx ∧ nx ≤ 2147483648) ∧ 0 ≤ m ∧ m < nx - 1 → backV nx m h ≤ nx - 1 := fun h => back_hi h.1.1 h.1.2 h.2.1 h.2.2
  obtain ⟨n, hn⟩ : ∃ n, backV nx m h = n := ⟨_, rfl⟩
  rw [hn] at f1 f2 f3 f4 BB
  clear hn F V T B
  have W0 := bd w0
  have W1 := bd w1
  clear w0 w1
  have HM : (0 ≤ m ∧ m ≤ 2147483648 ∧ m + 1 ≤ n) ∨ m < 0 ∨ 2147483648 < m := by omega
  have HN : (2 ≤ nx ∧ nx ≤ 2147483648 ∧ 0 ≤ m ∧ m < nx - 1 ∧ n ≤ nx - 1) ∨ nx < 2 ∨ 2147483648 < nx ∨ m < 0 ∨ nx - 1 ≤ m := by omega
  clear f3 f4
  rcases HM with ⟨m0, m1, m2⟩ | m0 | m0 <;> rcases HN with ⟨n0, n1, n2, n3, n4⟩ | n0 | n0 | n0 | n0
  all_goals (first | (exfalso; omega) | skip)
  all_goals
    go_enter Try.func6, Try.ntmps6
    go_wp2_with (first
      | (go_at_call 12; (with_reducible refine BB.out.mono ?_); rintro e w1 ⟨rfl, hb⟩; have B1 := Lib.hid hb; clear hb)
      | (go_at_call 14; (with_reducible refine (AW.out w1).mono ?_); rintro e w2 ⟨rfl, hb⟩; have B2 := Lib.hid (B1.out.trans (hb.mono B1.out.size)); clear hb))
    all_goals (first | (go_ret; exact ⟨rfl, B2.out⟩) | (exfalso; omega))

set_option maxRecDepth 100000 in
set_option maxHeartbeats 4000000 in
theorem rises_of15 (F : BaFreshP) (V : BaVoteP) (T : BaTimeP) (C : BaCommitP) (c : Int) (ms : List Int) (cm t ta : Int) (w : World) (hms : ms.length = 7) :
    Calls Try.prog 5 #[.int .i64 c, .agg (ms.map (Value.int .i64)).toArray, .int .i64 cm, .int .i64 t, .int .i64 ta] w fun e w' => e = .returned (.bool true) ∧ Below w.heap.size w w' := by
  have AW := Lib.hid (awake15 F V T)
  have HC := Lib.hid (fun w => C c ms cm t ta w hms)
  have HU := Lib.hid (fun w => umatch_v c ms hms w)
  clear F V T C
  obtain ⟨b, hb⟩ : ∃ b, bestV (vals c ms) = b := ⟨_, rfl⟩
  rw [hb] at HU HC
  obtain ⟨L, hL⟩ : ∃ L, ms.map (Value.int .i64) = L := ⟨_, rfl⟩
  have HS := Lib.hid (sevenSize ms hms)
  rw [hL] at HU HS HC ⊢
  clear hb hms hL
  by_cases h : cm < b ∧ ta = t
  · rw [show commitV b cm t ta = b from if_pos h] at HC
    obtain ⟨h1, h2⟩ := h
    subst h2
    go_enter Try.func5, Try.ntmps5
    go_wp2_with (first
      | ((with_reducible refine box_row (o := ⟨some 6, _, _, _, _, _⟩) rfl _ _ rfl L rfl ?_); intro w1 hr1 hb1 hz1; have HR1 := Lib.hid hr1; have HB1 := Lib.hid hb1; clear hr1 hb1 hz1)
      | ((with_reducible refine load_row (o := ⟨some 13, _, _, _, _, _⟩) rfl _ _ rfl w.heap.size ?_ _ L _ HR1.out Try.underlying22 rfl HS.out ?_); (focus go_simp))
      | (go_at_call 8; (with_reducible refine (HC.out w1).mono ?_); rintro e w2 ⟨rfl, hb2⟩; have HR2 := Lib.hid (HR1.out.below hb2 HR1.out.lt); have HB2 := Lib.hid (HB1.out.trans (hb2.mono HB1.out.size)); clear hb2)
      | ((with_reducible refine load_rowg (o := ⟨some 32, _, _, _, _, _⟩) 11 false 29 rfl _ _ rfl w.heap.size _ L _ HR2.out Try.underlying22 rfl ?_ ?_ ?_ ?_ ?_); (focus rfl); (focus go_simp); (focus go_simp); (focus (exact HS.out)))
      | (go_at_call 16; (with_reducible refine (HU.out w2).mono ?_); rintro e w3 ⟨rfl, hb3⟩; have HB3 := Lib.hid (HB2.out.trans (hb3.mono HB2.out.size)); clear hb3)
      | (go_at_call 14; (with_reducible refine (AW.out w3).mono ?_); rintro e w4 ⟨rfl, hb4⟩; have HB4 := Lib.hid (HB3.out.trans (hb4.mono HB3.out.size)); clear hb4))
    all_goals (first | (go_ret; exact ⟨rfl, HB4.out⟩) | (exfalso; omega))
  · rw [show commitV b cm t ta = cm from if_neg h] at HC
    clear h
    go_enter Try.func5, Try.ntmps5
    go_wp2_with (first
      | ((with_reducible refine box_row (o := ⟨some 6, _, _, _, _, _⟩) rfl _ _ rfl L rfl ?_); intro w1 hr1 hb1 hz1; have HR1 := Lib.hid hr1; have HB1 := Lib.hid hb1; clear hr1 hb1 hz1)
      | ((with_reducible refine load_row (o := ⟨some 13, _, _, _, _, _⟩) rfl _ _ rfl w.heap.size ?_ _ L _ HR1.out Try.underlying22 rfl HS.out ?_); (focus go_simp))
      | (go_at_call 8; (with_reducible refine (HC.out w1).mono ?_); rintro e w2 ⟨rfl, hb2⟩; have HB2 := Lib.hid (HB1.out.trans (hb2.mono HB1.out.size)); clear hb2)
      | (go_at_call 14; (with_reducible refine (AW.out w2).mono ?_); rintro e w4 ⟨rfl, hb4⟩; have HB4 := Lib.hid (HB2.out.trans (hb4.mono HB2.out.size)); clear hb4))
    all_goals (first | (go_ret; exact ⟨rfl, HB4.out⟩) | (exfalso; omega))
end Go.Proofs.Ytebpfjidfohjoaa.W
