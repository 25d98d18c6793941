/- CONTRACTS of layer 6 (caveat): the reference's Check. -/
import Derived.Test.YtmacjpgeamlmhaaCavW
set_option linter.unusedSimpArgs false
set_option linter.unusedVariables false
namespace Go.Proofs.Ytmacjpgeamlmhaa.W
open Go.ChangeShapes Go.WideShapes Go.ChangeAt Go.RowKit

theorem rmost_eq (k : Int) (h : partsV k = 1) : rmostV k = mostV k := by
  rcases parts_any k with ⟨rfl, e1, e2⟩ | ⟨rfl, e1, e2⟩ | ⟨rfl, e1, e2⟩ | ⟨rfl, e1, e2⟩ | ⟨rfl, e1, e2⟩ | ⟨rfl, e1, e2⟩ | ⟨hk, n1, n2, n3, n4, n5, n6, e1, e2⟩ <;> first | rfl | omega
theorem most_two (k : Int) (h : partsV k = 2) : mostV k = 0 := by
  rcases parts_any k with ⟨rfl, e1, e2⟩ | ⟨rfl, e1, e2⟩ | ⟨rfl, e1, e2⟩ | ⟨rfl, e1, e2⟩ | ⟨rfl, e1, e2⟩ | ⟨rfl, e1, e2⟩ | ⟨hk, n1, n2, n3, n4, n5, n6, e1, e2⟩ <;> omega
theorem parts_zero (k : Int) (h : partsV k = 0) : k < 1 ∨ 6 < k := by
  rcases parts_any k with ⟨rfl, e1, e2⟩ | ⟨rfl, e1, e2⟩ | ⟨rfl, e1, e2⟩ | ⟨rfl, e1, e2⟩ | ⟨rfl, e1, e2⟩ | ⟨rfl, e1, e2⟩ | ⟨hk, n1, n2, n3, n4, n5, n6, e1, e2⟩ <;> omega
theorem parts_in (k : Int) (h : partsV k ≠ 0) : 1 ≤ k ∧ k ≤ 6 := by
  rcases parts_any k with ⟨rfl, e1, e2⟩ | ⟨rfl, e1, e2⟩ | ⟨rfl, e1, e2⟩ | ⟨rfl, e1, e2⟩ | ⟨rfl, e1, e2⟩ | ⟨rfl, e1, e2⟩ | ⟨hk, n1, n2, n3, n4, n5, n6, e1, e2⟩ <;> omega

set_option maxHeartbeats 4000000 in
theorem ucheck (c : Cv) (w : World) (hc : c.fit) : Calls Try.prog 46 #[c.val] w fun e w' => e = .returned (.int .i64 c.err) ∧ Below w.heap.size w w' := by
  obtain ⟨kind, num, name⟩ := c
  obtain ⟨⟨k1, k2⟩, ⟨m1, m2⟩, hs⟩ := hc
  simp only at k1 k2 m1 m2 hs
  unfold Cv.val
  simp only
  obtain ⟨r, hr⟩ : ∃ r, Cv.err ⟨kind, num, name⟩ = r := ⟨_, rfl⟩
  rw [hr]
  have HS := Lib.hid hs
  clear hs
  unfold Cv.err Cv.ok at hr
  simp only at hr
  rcases parts_ne kind with hp | hp | hp
  · have hr' : r = 1 := by rw [← hr, hp]; rfl
    subst hr'
    clear hr
    have hk := parts_zero kind hp
    clear hp
    by_cases h1 : kind < 1
    all_goals
      go_enter Try.func46, Try.ntmps46
      go_wp2_with fail
      go_ret
      exact ⟨rfl, (Below.refl _ _).alloc (Nat.le_refl _) _⟩
  · obtain ⟨q1, q2⟩ := parts_in kind (by omega)
    have hm := rmost_eq kind hp
    have E1 := Lib.hid (show namedV kind = false from by unfold namedV; rw [hp]; rfl)
    rw [hp] at hr
    obtain ⟨M, hM⟩ : ∃ M, mostV kind = M := ⟨_, rfl⟩
    rw [hM] at hr hm
    have E2 := Lib.hid hm
    have hr1 : (if ((decide (0 ≤ num) && decide (num ≤ M)) && name.toList.isEmpty) = true then (0 : Int) else 1) = r := by rw [← hr]; rfl
    clear hr hp hm hM
    rcases hf : name.toList.isEmpty with _ | _
    · rw [hf, Bool.and_false] at hr1
      have HR := Lib.hid hr1
      clear hr1
      go_enter Try.func46, Try.ntmps46
      go_wp2_with fail
      refine region_w0 (by kernel_rfl) (by kernel_rfl) ?_
      repeat (first
        | (refine w_read (wanted_free rfl) ?_ ?_ ?_; rotate_left; (focus (rintro w' ⟨n, rfl⟩; go_simp; rfl)); go_simp)
        | (refine w_skip ?_ ?_; (focus (go_simp; first | done | (intro h; cases h) | simp)); go_simp)
        | (refine w_read ?_ ?_ ?_ ?_; (focus (go_simp; done)); rotate_left; (focus (rintro w' ⟨n, rfl⟩; go_simp; rfl)); go_simp)
        | (refine w_call ?_ 81 ?_ ?_ ?_ ?_ ?_; (focus (go_simp; done)); rotate_left; (focus (intro w'; go_simp; rfl)); rotate_left; (focus (rintro w' ⟨n, rfl⟩; exact quiet_sw (unamed _ _) (by rw [E1.out]))); go_simp))
      refine w_nil ?_
      intro nq
      go_wp2_with fail
      go_ret
      exact ⟨by rw [← HR.out]; rfl, below_drewN ((Below.refl _ _).alloc (Nat.le_refl _) _) _⟩
    · rw [hf, Bool.and_true] at hr1
      by_cases h0 : num < 0
      · have HR := Lib.hid (show r = 1 from by rw [← hr1, decide_eq_false (by omega)]; rfl)
        clear hr1
        go_enter Try.func46, Try.ntmps46
        go_wp2_with fail
        refine region_w0 (by kernel_rfl) (by kernel_rfl) ?_
        repeat (first
          | (refine w_read (wanted_free rfl) ?_ ?_ ?_; rotate_left; (focus (rintro w' ⟨n, rfl⟩; go_simp; rfl)); go_simp)
          | (refine w_skip ?_ ?_; (focus (go_simp; first | done | (intro h; cases h) | simp)); go_simp)
          | (refine w_read ?_ ?_ ?_ ?_; (focus (go_simp; done)); rotate_left; (focus (rintro w' ⟨n, rfl⟩; go_simp; rfl)); go_simp)
          | (refine w_call ?_ 81 ?_ ?_ ?_ ?_ ?_; (focus (go_simp; done)); rotate_left; (focus (intro w'; go_simp; rfl)); rotate_left; (focus (rintro w' ⟨n, rfl⟩; exact quiet_sw (unamed _ _) (by rw [E1.out]))); go_simp))
        refine w_nil ?_
        intro nq
        go_wp2_with fail
        go_ret
        exact ⟨by rw [HR.out]; rfl, below_drewN ((Below.refl _ _).alloc (Nat.le_refl _) _) _⟩
      · by_cases h1 : M < num
        · have HR := Lib.hid (show r = 1 from by rw [← hr1, decide_eq_false (p := num ≤ M) (by omega), Bool.and_false]; rfl)
          clear hr1
          go_enter Try.func46, Try.ntmps46
          go_wp2_with fail
          refine region_w0 (by kernel_rfl) (by kernel_rfl) ?_
          repeat (first
            | (refine w_read (wanted_free rfl) ?_ ?_ ?_; rotate_left; (focus (rintro w' ⟨n, rfl⟩; go_simp; rfl)); go_simp)
            | (refine w_skip ?_ ?_; (focus (go_simp; first | done | (intro h; cases h) | simp)); go_simp)
            | (refine w_read ?_ ?_ ?_ ?_; (focus (go_simp; done)); rotate_left; (focus (rintro w' ⟨n, rfl⟩; go_simp; rfl)); go_simp)
            | (refine w_call ?_ 81 ?_ ?_ ?_ ?_ ?_; (focus (go_simp; done)); rotate_left; (focus (intro w'; go_simp; rfl)); rotate_left; (focus (rintro w' ⟨n, rfl⟩; exact quiet_sw (unamed _ _) (by rw [E1.out]))); go_simp)
            | (refine w_call ?_ 82 ?_ ?_ ?_ ?_ ?_; (focus (go_simp; done)); rotate_left; (focus (intro w'; go_simp; rfl)); rotate_left; (focus (rintro w' ⟨n, rfl⟩; exact quiet_sw (umost _ _) (by rw [E2.out]))); go_simp))
          refine w_nil ?_
          intro nq
          go_wp2_with fail
          go_ret
          exact ⟨by rw [HR.out]; rfl, below_drewN ((Below.refl _ _).alloc (Nat.le_refl _) _) _⟩
        · have HR := Lib.hid (show r = 0 from by rw [← hr1, decide_eq_true (p := num ≤ M) (by omega), decide_eq_true (p := 0 ≤ num) (by omega)]; rfl)
          clear hr1
          go_enter Try.func46, Try.ntmps46
          go_wp2_with fail
          refine region_w0 (by kernel_rfl) (by kernel_rfl) ?_
          repeat (first
            | (refine w_read (wanted_free rfl) ?_ ?_ ?_; rotate_left; (focus (rintro w' ⟨n, rfl⟩; go_simp; rfl)); go_simp)
            | (refine w_skip ?_ ?_; (focus (go_simp; first | done | (intro h; cases h) | simp)); go_simp)
            | (refine w_read ?_ ?_ ?_ ?_; (focus (go_simp; done)); rotate_left; (focus (rintro w' ⟨n, rfl⟩; go_simp; rfl)); go_simp)
            | (refine w_call ?_ 81 ?_ ?_ ?_ ?_ ?_; (focus (go_simp; done)); rotate_left; (focus (intro w'; go_simp; rfl)); rotate_left; (focus (rintro w' ⟨n, rfl⟩; exact quiet_sw (unamed _ _) (by rw [E1.out]))); go_simp)
            | (refine w_call ?_ 82 ?_ ?_ ?_ ?_ ?_; (focus (go_simp; done)); rotate_left; (focus (intro w'; go_simp; rfl)); rotate_left; (focus (rintro w' ⟨n, rfl⟩; exact quiet_sw (umost _ _) (by rw [E2.out]))); go_simp))
          refine w_nil ?_
          intro nq
          go_wp2_with fail
          go_ret
          exact ⟨by rw [HR.out]; rfl, below_drewN ((Below.refl _ _).alloc (Nat.le_refl _) _) _⟩
  · obtain ⟨q1, q2⟩ := parts_in kind (by omega)
    have hm := most_two kind hp
    have E1 := Lib.hid (show namedV kind = true from by unfold namedV; rw [hp]; rfl)
    rw [hp, hm] at hr
    have hr1 : (if ((decide (0 ≤ num) && decide (num ≤ 0)) && nameV name) = true then (0 : Int) else 1) = r := by rw [← hr]; rfl
    clear hr hp hm
    by_cases h0 : num = 0
    · subst h0
      have hr2 : (if nameV name = true then (0 : Int) else 1) = r := by rw [← hr1]; rfl
      clear hr1
      rcases hf : nameV name with _ | _
      all_goals
        rw [hf] at hr2
        have HF := Lib.hid hf
        have HR := Lib.hid hr2
        clear hf hr2
        go_enter Try.func46, Try.ntmps46
        go_wp2_with fail
        refine region_w0 (by kernel_rfl) (by kernel_rfl) ?_
        repeat (first
          | (refine w_read (wanted_free rfl) ?_ ?_ ?_; rotate_left; (focus (rintro w' ⟨n, rfl⟩; go_simp; rfl)); go_simp)
          | (refine w_skip ?_ ?_; (focus (go_simp; first | done | (intro h; cases h) | simp)); go_simp)
          | (refine w_read ?_ ?_ ?_ ?_; (focus (go_simp; done)); rotate_left; (focus (rintro w' ⟨n, rfl⟩; go_simp; rfl)); go_simp)
          | (refine w_call ?_ 81 ?_ ?_ ?_ ?_ ?_; (focus (go_simp; done)); rotate_left; (focus (intro w'; go_simp; rfl)); rotate_left; (focus (rintro w' ⟨n, rfl⟩; exact quiet_sw (unamed _ _) (by rw [E1.out]))); go_simp)
          | (refine w_call ?_ 80 ?_ ?_ ?_ ?_ ?_; (focus (go_simp; done)); rotate_left; (focus (intro w'; go_simp; rfl)); rotate_left; (focus (rintro w' ⟨n, rfl⟩; exact quiet_sw (uname _ _ HS.out) (by rw [HF.out]))); go_simp))
        refine w_nil ?_
        intro nq
        go_wp2_with fail
        go_ret
        exact ⟨by rw [← HR.out]; rfl, below_drewN ((Below.refl _ _).alloc (Nat.le_refl _) _) _⟩
    · have HR := Lib.hid (show r = 1 from by
        rw [← hr1]
        rcases Int.lt_or_le num 0 with h | h
        · rw [decide_eq_false (p := 0 ≤ num) (by omega)]; rfl
        · rw [decide_eq_false (p := num ≤ 0) (by omega), Bool.and_false]; rfl)
      have n0 : (num == 0) = false := by simpa using h0
      have n1 : (num != 0) = true := by simpa using h0
      clear hr1
      go_enter Try.func46, Try.ntmps46
      go_wp2_with fail
      refine region_w0 (by kernel_rfl) (by kernel_rfl) ?_
      repeat (first
        | (refine w_read (wanted_free rfl) ?_ ?_ ?_; rotate_left; (focus (rintro w' ⟨n, rfl⟩; go_simp; rfl)); go_simp)
        | (refine w_skip ?_ ?_; (focus (go_simp; first | done | (intro h; cases h) | simp)); go_simp)
        | (refine w_read ?_ ?_ ?_ ?_; (focus (go_simp; done)); rotate_left; (focus (rintro w' ⟨n, rfl⟩; go_simp; rfl)); go_simp)
        | (refine w_call ?_ 81 ?_ ?_ ?_ ?_ ?_; (focus (go_simp; done)); rotate_left; (focus (intro w'; go_simp; rfl)); rotate_left; (focus (rintro w' ⟨n, rfl⟩; exact quiet_sw (unamed _ _) (by rw [E1.out]))); go_simp))
      refine w_nil ?_
      intro nq
      go_wp2_with fail
      go_ret
      exact ⟨by rw [HR.out]; rfl, below_drewN ((Below.refl _ _).alloc (Nat.le_refl _) _) _⟩

end Go.Proofs.Ytmacjpgeamlmhaa.W
