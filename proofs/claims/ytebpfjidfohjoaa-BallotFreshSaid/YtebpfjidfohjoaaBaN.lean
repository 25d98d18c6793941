/- LAYER 15 (ballot): the law Commits, out of what the program owes. -/
import Derived.Test.YtebpfjidfohjoaaBaM
set_option linter.unusedSimpArgs false
set_option linter.unusedVariables false
namespace Go.Proofs.Ytebpfjidfohjoaa.W
open Go Go.ChangeShapes Go.WideShapes Go.ChangeAt Go.RowKit
open Go.Proofs.Ytebpfjidfohjoaa.B (Best)

set_option maxRecDepth 100000 in
set_option maxHeartbeats 4000000 in
theorem commits_of15 (F : BaFreshP) (V : BaVoteP) (T : BaTimeP) (O : BaWonP) (C : BaCommitP) (B : BaBackP) (c : Int) (ms : List Int) (x y z : Int) (w : World) (hms : ms.length = 7) :
    Calls Try.prog 3 #[.int .i64 c, .agg (ms.map (Value.int .i64)).toArray, .int .i64 x, .int .i64 y, .int .i64 z] w fun e w' => e = .returned (.bool true) ∧ Below w.heap.size w w' := by
  have AW := Lib.hid (awake15 F V T)
  have HC := Lib.hid (fun w => C c ms x y z w hms)
  have YC := Lib.hid (fun w => ycommit c ms x y z w hms)
  have HO := Lib.hid (fun w => O c x w)
  have YO := Lib.hid (fun w => ywon c x w)
  have HB := Lib.hid (fun w => B x y z w)
  have YB := Lib.hid (fun w => yback x y z w)
  clear F V T C O B
  obtain ⟨b, hb⟩ : ∃ b, commitV (bestV (vals c ms)) x y z = b := ⟨_, rfl⟩
  obtain ⟨q, hq⟩ : ∃ q, quoM c x = q := ⟨_, rfl⟩
  obtain ⟨k, hk⟩ : ∃ k, backV x y z = k := ⟨_, rfl⟩
  rw [hb] at HC YC
  rw [hq] at HO YO
  rw [hk] at HB YB
  obtain ⟨L, hL⟩ : ∃ L, ms.map (Value.int .i64) = L := ⟨_, rfl⟩
  have HS := Lib.hid (sevenSize ms hms)
  rw [hL] at HC YC HS ⊢
  clear hb hms hL hq hk
  go_enter Try.func3, Try.ntmps3
  go_wp2_with ((with_reducible refine box_row (o := ⟨some 6, _, _, _, _, _⟩) rfl _ _ rfl L rfl ?_); intro w1 hr1 hb1 hz1; have HR1 := Lib.hid hr1; have HB1 := Lib.hid hb1; clear hr1 hb1 hz1)
  refine region_w (C := fun v => Below w1.heap.size w1 v) (by kernel_rfl) (by kernel_rfl) (Below.refl _ _).drew ?_
  repeat (first
    | (refine w_read (wanted_free rfl) (.agg L.toArray) (fun v hv => load_agg _ _ rfl w.heap.size (by go_simp) _ L (.array 7 3) (HR1.out.below hv HR1.out.lt) Try.underlying22 rfl HS.out) ?_; go_simp)
    | (refine w_read (wanted_free rfl) ?_ ?_ ?_; rotate_left; (focus (intro v hv; go_simp; rfl)); go_simp)
    | (refine w_read ?_ ?_ ?_ ?_; (focus (go_simp; done)); rotate_left; (focus (intro v hv; go_simp; rfl)); go_simp)
    | (refine w_call ?_ 8 ?_ ?_ ?_ ?_ ?_; (focus (go_simp; done)); rotate_left; (focus (intro v; go_simp; rfl)); rotate_left; (focus (intro v hv; exact q_grow (HC.out v) (by rfl) hv)); go_simp)
    | (refine w_call ?_ 9 ?_ ?_ ?_ ?_ ?_; (focus (go_simp; done)); rotate_left; (focus (intro v; go_simp; rfl)); rotate_left; (focus (intro v hv; exact q_grow (YC.out v) (by rfl) hv)); go_simp)
    | (refine w_call ?_ 10 ?_ ?_ ?_ ?_ ?_; (focus (go_simp; done)); rotate_left; (focus (intro v; go_simp; rfl)); rotate_left; (focus (intro v hv; exact q_grow (HO.out v) (by rfl) hv)); go_simp)
    | (refine w_call ?_ 11 ?_ ?_ ?_ ?_ ?_; (focus (go_simp; done)); rotate_left; (focus (intro v; go_simp; rfl)); rotate_left; (focus (intro v hv; exact q_grow (YO.out v) (by rfl) hv)); go_simp))
  refine w_nil ?_
  intro w3 hb3
  have HB3 := Lib.hid (HB1.out.trans (hb3.mono HB1.out.size))
  clear hb3
  go_wp2_with (first
    | (go_at_call 12; (with_reducible refine (HB.out w3).mono ?_); rintro e w4 ⟨rfl, hb⟩; have HB4 := Lib.hid (HB3.out.trans (hb.mono HB3.out.size)); clear hb)
    | (go_at_call 13; (with_reducible refine (YB.out w4).mono ?_); rintro e w5 ⟨rfl, hb⟩; have HB5 := Lib.hid (HB4.out.trans (hb.mono HB4.out.size)); clear hb)
    | (go_at_call 14; (with_reducible refine (AW.out w5).mono ?_); rintro e w6 ⟨rfl, hb⟩; have HB6 := Lib.hid (HB5.out.trans (hb.mono HB5.out.size)); clear hb))
  go_ret
  exact ⟨rfl, HB6.out⟩
end Go.Proofs.Ytebpfjidfohjoaa.W
