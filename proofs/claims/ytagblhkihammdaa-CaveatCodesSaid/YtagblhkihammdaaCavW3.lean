/- CONTRACTS of layer 6 (caveat): Check, and the reference's. -/
import Derived.Test.YtagblhkihammdaaCavW2
namespace Go.Proofs.Ytagblhkihammdaa.W
open Go.ChangeShapes Go.WideShapes Go.ChangeAt Go.RowKit

theorem quiet_sw {P : Program} {f : FuncId} {args : Array Value} {w : World} {n : Nat} {v v' : Value} (h : Calls P f args (w.drewN n) fun e w' => e = .returned v' ∧ w.drewN n = w') (hv : v' = v) :
    Calls P f args (w.drewN n) fun e w'' => e = .returned v ∧ ∃ m, w'' = w.drewN m := by
  subst hv
  exact h.mono fun _ _ ⟨he, hw⟩ => ⟨he, n, hw.symm⟩
theorem parts_ne (k : Int) : partsV k = 0 ∨ partsV k = 1 ∨ partsV k = 2 := by
  rcases parts_any k with ⟨rfl, e1, e2⟩ | ⟨rfl, e1, e2⟩ | ⟨rfl, e1, e2⟩ | ⟨rfl, e1, e2⟩ | ⟨rfl, e1, e2⟩ | ⟨rfl, e1, e2⟩ | ⟨hk, n1, n2, n3, n4, n5, n6, e1, e2⟩ <;> omega

set_option maxHeartbeats 4000000 in
theorem ccheck (c : Cv) (w : World) (hc : c.fit) : Calls Try.prog 23 #[c.val] w fun e w' => e = .returned (.int .i64 c.err) ∧ Below w.heap.size w w' := by
  obtain ⟨kind, num, name⟩ := c
  obtain ⟨⟨k1, k2⟩, ⟨m1, m2⟩, hs⟩ := hc
  simp only at k1 k2 m1 m2 hs
  unfold Cv.val
  simp only
  obtain ⟨r, hr⟩ : ∃ r, Cv.err ⟨kind, num, name⟩ = r := ⟨_, rfl⟩
  rw [hr]
  have HS := Lib.hid hs
  clear hs
  unfold Cv.err Cv.ok at hr
  simp only at hr
  have hP := parts_ne kind
  obtain ⟨P, hp⟩ : ∃ P, partsV kind = P := ⟨_, rfl⟩
  obtain ⟨M, hm⟩ : ∃ M, mostV kind = M := ⟨_, rfl⟩
  rw [hp, hm] at hr
  rw [hp] at hP
  have E1 := Lib.hid hp
  have E2 := Lib.hid hm
  clear hp hm
  rcases hP with rfl | hP
  · have hr' : r = 1 := by rw [← hr]; rfl
    subst hr'
    clear hr
    go_enter Try.func23, Try.ntmps23
    go_wp2_with (go_at_call 28; refine (cparts _ _).mono ?_; rw [E1.out]; rintro e w' ⟨rfl, rfl⟩)
    go_quiet (fail)
    go_wp2_with fail
    go_ret
    exact ⟨rfl, below_drewN ((Below.refl _ _).alloc (Nat.le_refl _) _) _⟩
  · have p0 : (P == 0) = false := by rcases hP with rfl | rfl <;> rfl
    have HP := Lib.hid hP
    have hr1 : (if ((decide (0 ≤ num) && decide (num ≤ M)) && fitsV P name) = true then (0 : Int) else 1) = r := by
      rw [← hr]; rw [decide_eq_true (by omega : P ≠ 0), Bool.true_and]
    clear hr hP
    rcases hb : (decide ((0 : Int) ≤ num) && decide (num ≤ M)) with _ | _
    · rw [hb] at hr1
      have HR := Lib.hid hr1
      have HB := Lib.hid hb
      clear hr1 hb
      go_enter Try.func23, Try.ntmps23
      go_wp2_with (go_at_call 28; refine (cparts _ _).mono ?_; rw [E1.out]; rintro e w' ⟨rfl, rfl⟩)
      go_quiet (first | (go_at_call 41; exact quiet_sw (cmost _ _) (by rw [E2.out])) | (go_at_call 48; exact quiet_sw (cwithin_b _ _ _ _ false HB.out) rfl))
      go_wp2_with fail
      go_ret
      exact ⟨by rw [← HR.out]; rfl, below_drewN ((Below.refl _ _).alloc (Nat.le_refl _) _) _⟩
    · rw [hb, Bool.true_and] at hr1
      have HB := Lib.hid hb
      clear hb
      rcases hf : fitsV P name with _ | _
      all_goals
        rw [hf] at hr1
        have HR := Lib.hid hr1
        have HF := Lib.hid hf
        clear hr1 hf
        go_enter Try.func23, Try.ntmps23
        go_wp2_with (go_at_call 28; refine (cparts _ _).mono ?_; rw [E1.out]; rintro e w' ⟨rfl, rfl⟩)
        go_quiet (first | (go_at_call 41; exact quiet_sw (cmost _ _) (by rw [E2.out])) | (go_at_call 48; exact quiet_sw (cwithin_b _ _ _ _ true HB.out) rfl) | (go_at_call 49; exact quiet_sw (cfits _ _ _ HS.out HP.out) (by rw [HF.out])))
        go_wp2_with fail
        go_ret
        exact ⟨by rw [← HR.out]; rfl, below_drewN ((Below.refl _ _).alloc (Nat.le_refl _) _) _⟩

end Go.Proofs.Ytagblhkihammdaa.W
