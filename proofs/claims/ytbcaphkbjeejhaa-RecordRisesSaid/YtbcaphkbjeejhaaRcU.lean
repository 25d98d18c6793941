/- LAYER 11 (record): Check of the reference. -/
import Derived.Test.YtbcaphkbjeejhaaRcC
set_option linter.unusedSimpArgs false
set_option linter.unusedVariables false
namespace Go.Proofs.Ytbcaphkbjeejhaa.W
open Go Go.ChangeShapes Go.WideShapes Go.ChangeAt Go.RowKit
open Go.Proofs.Ytbcaphkbjeejhaa.P (enc dec)

set_option maxRecDepth 100000 in
set_option maxHeartbeats 16000000 in
theorem ucheckR (r : Rc) (l s : List UInt8) (w : World) (hl : Rd w r.e.a r.e.n r.e.c l) (hs : Rd w r.a r.n r.c s) : Calls Try.prog 58 #[.agg r.cells.toArray] w fun x w' => x = .returned (.int .i64 (chkU r l s)) ∧ Below w.heap.size w w' := by
  have HO := Lib.hid (fun w => uonly r w)
  have HS : Hid (∀ v, Below w.heap.size w v → Calls Try.prog 97 #[.agg r.cells.toArray, .agg r.only.cells.toArray] v fun x w' => x = .returned (.bool (sameR r r.only l (ownE r l) s (ownS r s))) ∧ Below v.heap.size v w') := Lib.hid (fun v hv => usame r r.only l (ownE r l) s (ownS r s) v (hl.mono hv) (only_e (hl.mono hv)) (hs.mono hv) (only_s (hs.mono hv)))
  have HZ := Lib.hid (show (Try.prog.info? 29).map (·.size) = some r.cells.length from rc_size)
  obtain ⟨O, hO⟩ : ∃ O, (Value.agg r.only.cells.toArray) = O := ⟨_, rfl⟩
  obtain ⟨b1, h1⟩ : ∃ b, sameR r r.only l (ownE r l) s (ownS r s) = b := ⟨_, rfl⟩
  obtain ⟨U, hU⟩ : ∃ U, chkU r l s = U := ⟨_, rfl⟩
  have hok : okU r l s = (inV r.k 1 4 && (b1 && (inV r.t 0 2147483648 && (inV r.v 0 7 && (inV r.i 0 2147483648 && (inV r.f 0 127 && decide (r.n ≤ 131072))))))) := by unfold okU; rw [h1]
  unfold chkU at hU
  rw [hok] at hU
  rw [h1] at HS
  rw [hO] at HO HS
  rw [show chkU r l s = U by unfold chkU; rw [hok]; exact hU]
  clear hok h1 hO hl hs
  obtain ⟨k, t, v, ⟨ix, tm, kd, a, n, c⟩, i, f, sa, sn, sc⟩ := r
  dsimp only at hU
  obtain ⟨b0, h0⟩ : ∃ b, inV k 1 4 = b := ⟨_, rfl⟩
  obtain ⟨b2, h2⟩ : ∃ b, inV t 0 2147483648 = b := ⟨_, rfl⟩
  obtain ⟨b3, h3⟩ : ∃ b, inV v 0 7 = b := ⟨_, rfl⟩
  obtain ⟨b4, h4⟩ : ∃ b, inV i 0 2147483648 = b := ⟨_, rfl⟩
  obtain ⟨b5, h5⟩ : ∃ b, inV f 0 127 = b := ⟨_, rfl⟩
  obtain ⟨b6, h6⟩ : ∃ b, decide (sn ≤ 131072) = b := ⟨_, rfl⟩
  have h6' : decide ((sn : Int) ≤ 131072) = b6 := by rw [← h6, decide_eq_decide]; omega
  obtain ⟨b7, h7⟩ : ∃ b, enOk ⟨ix, tm, kd, a, n, c⟩ = b := ⟨_, rfl⟩
  have H7 := Lib.hid h7
  have hk : b0 = true → k = 1 ∨ k = 2 ∨ k = 3 ∨ k = 4 := by
    intro e; rw [e] at h0; unfold inV at h0; simp at h0; omega
  rw [h0, h2, h3, h4, h5, h6, h7] at hU
  have HU := Lib.hid hU
  have HI0 : Hid (∀ w, Calls Try.prog 96 #[.int .i64 k, .int .i64 1, .int .i64 4] w fun e w' => e = .returned (.bool b0) ∧ w = w') := Lib.hid (fun w => by have h := uin k 1 4 w; rw [h0] at h; exact h)
  have HI2 : Hid (∀ w, Calls Try.prog 96 #[.int .i64 t, .int .i64 0, .int .i64 2147483648] w fun e w' => e = .returned (.bool b2) ∧ w = w') := Lib.hid (fun w => by have h := uin t 0 2147483648 w; rw [h2] at h; exact h)
  have HI3 : Hid (∀ w, Calls Try.prog 96 #[.int .i64 v, .int .i64 0, .int .i64 7] w fun e w' => e = .returned (.bool b3) ∧ w = w') := Lib.hid (fun w => by have h := uin v 0 7 w; rw [h3] at h; exact h)
  have HI4 : Hid (∀ w, Calls Try.prog 96 #[.int .i64 i, .int .i64 0, .int .i64 2147483648] w fun e w' => e = .returned (.bool b4) ∧ w = w') := Lib.hid (fun w => by have h := uin i 0 2147483648 w; rw [h4] at h; exact h)
  have HI5 : Hid (∀ w, Calls Try.prog 96 #[.int .i64 f, .int .i64 0, .int .i64 127] w fun e w' => e = .returned (.bool b5) ∧ w = w') := Lib.hid (fun w => by have h := uin f 0 127 w; rw [h5] at h; exact h)
  unfold Rc.cells at HO HS HZ ⊢
  dsimp only at HO HS HZ ⊢
  clear hU h0 h2 h3 h4 h5 h6 h7
  have hch : (((b0 && (b1 && (b2 && (b3 && (b4 && (b5 && b6)))))) = false ∧ ((b0 = false) ∨ (b0 = true ∧ b1 = false) ∨ (b0 = true ∧ b1 = true ∧ b2 = false) ∨ (b0 = true ∧ b1 = true ∧ b2 = true ∧ b3 = false) ∨ (b0 = true ∧ b1 = true ∧ b2 = true ∧ b3 = true ∧ b4 = false) ∨ (b0 = true ∧ b1 = true ∧ b2 = true ∧ b3 = true ∧ b4 = true ∧ b5 = false) ∨ (b0 = true ∧ b1 = true ∧ b2 = true ∧ b3 = true ∧ b4 = true ∧ b5 = true ∧ b6 = false))) ∨ (b0 = true ∧ b1 = true ∧ b2 = true ∧ b3 = true ∧ b4 = true ∧ b5 = true ∧ b6 = true)) := by
    clear HS HU HI0 HI2 HI3 HI4 HI5 h6' hk
    revert b0 b1 b2 b3 b4 b5 b6
    intro b0 b1 b2 b3 b4 b5 b6
    cases b0 <;> cases b1 <;> cases b2 <;> cases b3 <;> cases b4 <;> cases b5 <;> cases b6 <;> simp
  rcases hch with ⟨-, hch⟩ | ⟨rfl, rfl, rfl, rfl, rfl, rfl, rfl⟩
  · clear hk
    rcases hch with rfl | ⟨rfl, rfl⟩ | ⟨rfl, rfl, rfl⟩ | ⟨rfl, rfl, rfl, rfl⟩ | ⟨rfl, rfl, rfl, rfl, rfl⟩ | ⟨rfl, rfl, rfl, rfl, rfl, rfl⟩ | ⟨rfl, rfl, rfl, rfl, rfl, rfl, rfl⟩
    all_goals
      go_enter Try.func58, Try.ntmps58
      go_wp2_with (with_reducible refine box_row (o := ⟨some 1, _, _, _, _, _⟩) rfl _ _ rfl [.int .i64 k, .int .i64 t, .int .i64 v, .int .i64 ix, .int .i64 tm, .int .i64 kd, .slice a n c, .int .i64 i, .int .i64 f, .slice sa sn sc] rfl ?_; intro w1 hr1 hb1 hz1; have HR1 := Lib.hid hr1; have B1 := Lib.hid hb1; clear hr1 hb1 hz1)
      refine region_w (C := fun v => Below w1.heap.size w1 v) (by kernel_rfl) (by kernel_rfl) (Below.refl _ _).drew ?_
      repeat (first
        | (refine w_read (wanted_free rfl) ?_ ?_ ?_; rotate_left; (focus (intro v hv; obtain ⟨c0, c1, c2, c3, c4, c5, c6, c7, c8, c9⟩ := (HR1.out.below hv HR1.out.lt).q10; go_simp; rfl)); go_simp)
        | (refine w_skip ?_ ?_; (focus (go_simp; first | done | (intro h; cases h) | simp)); go_simp)
        | (refine w_read ?_ (.agg [.int .i64 k, .int .i64 t, .int .i64 v, .int .i64 ix, .int .i64 tm, .int .i64 kd, .slice a n c, .int .i64 i, .int .i64 f, .slice sa sn sc].toArray) (fun v hv => load_all _ _ rfl w.heap.size (by go_simp) _ [.int .i64 k, .int .i64 t, .int .i64 v, .int .i64 ix, .int .i64 tm, .int .i64 kd, .slice a n c, .int .i64 i, .int .i64 f, .slice sa sn sc] _ (HR1.out.below hv HR1.out.lt) Try.underlying29 rfl HZ.out) ?_; (focus (go_simp; done)); go_simp)
        | (refine w_read ?_ ?_ ?_ ?_; (focus (go_simp; done)); rotate_left; (focus (intro v hv; obtain ⟨c0, c1, c2, c3, c4, c5, c6, c7, c8, c9⟩ := (HR1.out.below hv HR1.out.lt).q10; go_simp; rfl)); go_simp)
        | (refine w_call ?_ 96 ?_ ?_ ?_ ?_ ?_; (focus (go_simp; done)); rotate_left; (focus (intro v; go_simp; rfl)); rotate_left; (focus (intro v' hv; with_reducible exact q_same (HI0.out v') (by rfl) hv)); go_simp)
        | (refine w_call ?_ 96 ?_ ?_ ?_ ?_ ?_; (focus (go_simp; done)); rotate_left; (focus (intro v; go_simp; rfl)); rotate_left; (focus (intro v' hv; with_reducible exact q_same (HI2.out v') (by rfl) hv)); go_simp)
        | (refine w_call ?_ 96 ?_ ?_ ?_ ?_ ?_; (focus (go_simp; done)); rotate_left; (focus (intro v; go_simp; rfl)); rotate_left; (focus (intro v' hv; with_reducible exact q_same (HI3.out v') (by rfl) hv)); go_simp)
        | (refine w_call ?_ 96 ?_ ?_ ?_ ?_ ?_; (focus (go_simp; done)); rotate_left; (focus (intro v; go_simp; rfl)); rotate_left; (focus (intro v' hv; with_reducible exact q_same (HI4.out v') (by rfl) hv)); go_simp)
        | (refine w_call ?_ 96 ?_ ?_ ?_ ?_ ?_; (focus (go_simp; done)); rotate_left; (focus (intro v; go_simp; rfl)); rotate_left; (focus (intro v' hv; with_reducible exact q_same (HI5.out v') (by rfl) hv)); go_simp)
        | (refine w_call ?_ 98 ?_ ?_ ?_ ?_ ?_; (focus (go_simp; done)); rotate_left; (focus (intro v; go_simp; rfl)); rotate_left; (focus (intro v hv; exact q_grow (HO.out v) (by rfl) hv)); go_simp)
        | (refine w_call ?_ 97 ?_ ?_ ?_ ?_ ?_; (focus (go_simp; done)); rotate_left; (focus (intro v; go_simp; rfl)); rotate_left; (focus (intro v hv; exact q_grow (HS.out v (B1.out.trans (hv.mono B1.out.size))) (by rfl) hv)); go_simp))
      refine w_nil ?_
      intro w3 hb3
      go_wp2_with fail
      go_ret
      exact ⟨one (vint (by rw [← HU.out]; simp)), B1.out.trans (hb3.mono B1.out.size)⟩
  · rcases hk rfl with rfl | rfl | rfl | rfl
    all_goals clear hk
    · clear H7
      go_enter Try.func58, Try.ntmps58
      go_wp2_with (with_reducible refine box_row (o := ⟨some 1, _, _, _, _, _⟩) rfl _ _ rfl [.int .i64 1, .int .i64 t, .int .i64 v, .int .i64 ix, .int .i64 tm, .int .i64 kd, .slice a n c, .int .i64 i, .int .i64 f, .slice sa sn sc] rfl ?_; intro w1 hr1 hb1 hz1; have HR1 := Lib.hid hr1; have B1 := Lib.hid hb1; clear hr1 hb1 hz1)
      refine region_w (C := fun v => Below w1.heap.size w1 v) (by kernel_rfl) (by kernel_rfl) (Below.refl _ _).drew ?_
      repeat (first
        | (refine w_read (wanted_free rfl) ?_ ?_ ?_; rotate_left; (focus (intro v hv; obtain ⟨c0, c1, c2, c3, c4, c5, c6, c7, c8, c9⟩ := (HR1.out.below hv HR1.out.lt).q10; go_simp; rfl)); go_simp)
        | (refine w_skip ?_ ?_; (focus (go_simp; first | done | (intro h; cases h) | simp)); go_simp)
        | (refine w_read ?_ (.agg [.int .i64 1, .int .i64 t, .int .i64 v, .int .i64 ix, .int .i64 tm, .int .i64 kd, .slice a n c, .int .i64 i, .int .i64 f, .slice sa sn sc].toArray) (fun v hv => load_all _ _ rfl w.heap.size (by go_simp) _ [.int .i64 1, .int .i64 t, .int .i64 v, .int .i64 ix, .int .i64 tm, .int .i64 kd, .slice a n c, .int .i64 i, .int .i64 f, .slice sa sn sc] _ (HR1.out.below hv HR1.out.lt) Try.underlying29 rfl HZ.out) ?_; (focus (go_simp; done)); go_simp)
        | (refine w_read ?_ ?_ ?_ ?_; (focus (go_simp; done)); rotate_left; (focus (intro v hv; obtain ⟨c0, c1, c2, c3, c4, c5, c6, c7, c8, c9⟩ := (HR1.out.below hv HR1.out.lt).q10; go_simp; rfl)); go_simp)
        | (refine w_call ?_ 96 ?_ ?_ ?_ ?_ ?_; (focus (go_simp; done)); rotate_left; (focus (intro v; go_simp; rfl)); rotate_left; (focus (intro v' hv; with_reducible exact q_same (HI0.out v') (by rfl) hv)); go_simp)
        | (refine w_call ?_ 96 ?_ ?_ ?_ ?_ ?_; (focus (go_simp; done)); rotate_left; (focus (intro v; go_simp; rfl)); rotate_left; (focus (intro v' hv; with_reducible exact q_same (HI2.out v') (by rfl) hv)); go_simp)
        | (refine w_call ?_ 96 ?_ ?_ ?_ ?_ ?_; (focus (go_simp; done)); rotate_left; (focus (intro v; go_simp; rfl)); rotate_left; (focus (intro v' hv; with_reducible exact q_same (HI3.out v') (by rfl) hv)); go_simp)
        | (refine w_call ?_ 96 ?_ ?_ ?_ ?_ ?_; (focus (go_simp; done)); rotate_left; (focus (intro v; go_simp; rfl)); rotate_left; (focus (intro v' hv; with_reducible exact q_same (HI4.out v') (by rfl) hv)); go_simp)
        | (refine w_call ?_ 96 ?_ ?_ ?_ ?_ ?_; (focus (go_simp; done)); rotate_left; (focus (intro v; go_simp; rfl)); rotate_left; (focus (intro v' hv; with_reducible exact q_same (HI5.out v') (by rfl) hv)); go_simp)
        | (refine w_call ?_ 98 ?_ ?_ ?_ ?_ ?_; (focus (go_simp; done)); rotate_left; (focus (intro v; go_simp; rfl)); rotate_left; (focus (intro v hv; exact q_grow (HO.out v) (by rfl) hv)); go_simp)
        | (refine w_call ?_ 97 ?_ ?_ ?_ ?_ ?_; (focus (go_simp; done)); rotate_left; (focus (intro v; go_simp; rfl)); rotate_left; (focus (intro v hv; exact q_grow (HS.out v (B1.out.trans (hv.mono B1.out.size))) (by rfl) hv)); go_simp))
      refine w_nil ?_
      intro w3 hb3
      have HR3 := Lib.hid (HR1.out.below hb3 HR1.out.lt)
      obtain ⟨c0, c1, c2, c3, c4, c5, c6, c7, c8, c9⟩ := HR3.out.q10
      have B3 := Lib.hid (B1.out.trans (hb3.mono B1.out.size))
      clear hb3
      go_wp2_with (go_at_call 70; refine (uentry ⟨ix, tm, kd, a, n, c⟩ _).mono ?_; fail)
      go_ret
      exact ⟨one (vint (by rw [← HU.out]; simp)), by first | exact B4.out | exact B3.out⟩
    · clear H7
      go_enter Try.func58, Try.ntmps58
      go_wp2_with (with_reducible refine box_row (o := ⟨some 1, _, _, _, _, _⟩) rfl _ _ rfl [.int .i64 2, .int .i64 t, .int .i64 v, .int .i64 ix, .int .i64 tm, .int .i64 kd, .slice a n c, .int .i64 i, .int .i64 f, .slice sa sn sc] rfl ?_; intro w1 hr1 hb1 hz1; have HR1 := Lib.hid hr1; have B1 := Lib.hid hb1; clear hr1 hb1 hz1)
      refine region_w (C := fun v => Below w1.heap.size w1 v) (by kernel_rfl) (by kernel_rfl) (Below.refl _ _).drew ?_
      repeat (first
        | (refine w_read (wanted_free rfl) ?_ ?_ ?_; rotate_left; (focus (intro v hv; obtain ⟨c0, c1, c2, c3, c4, c5, c6, c7, c8, c9⟩ := (HR1.out.below hv HR1.out.lt).q10; go_simp; rfl)); go_simp)
        | (refine w_skip ?_ ?_; (focus (go_simp; first | done | (intro h; cases h) | simp)); go_simp)
        | (refine w_read ?_ (.agg [.int .i64 2, .int .i64 t, .int .i64 v, .int .i64 ix, .int .i64 tm, .int .i64 kd, .slice a n c, .int .i64 i, .int .i64 f, .slice sa sn sc].toArray) (fun v hv => load_all _ _ rfl w.heap.size (by go_simp) _ [.int .i64 2, .int .i64 t, .int .i64 v, .int .i64 ix, .int .i64 tm, .int .i64 kd, .slice a n c, .int .i64 i, .int .i64 f, .slice sa sn sc] _ (HR1.out.below hv HR1.out.lt) Try.underlying29 rfl HZ.out) ?_; (focus (go_simp; done)); go_simp)
        | (refine w_read ?_ ?_ ?_ ?_; (focus (go_simp; done)); rotate_left; (focus (intro v hv; obtain ⟨c0, c1, c2, c3, c4, c5, c6, c7, c8, c9⟩ := (HR1.out.below hv HR1.out.lt).q10; go_simp; rfl)); go_simp)
        | (refine w_call ?_ 96 ?_ ?_ ?_ ?_ ?_; (focus (go_simp; done)); rotate_left; (focus (intro v; go_simp; rfl)); rotate_left; (focus (intro v' hv; with_reducible exact q_same (HI0.out v') (by rfl) hv)); go_simp)
        | (refine w_call ?_ 96 ?_ ?_ ?_ ?_ ?_; (focus (go_simp; done)); rotate_left; (focus (intro v; go_simp; rfl)); rotate_left; (focus (intro v' hv; with_reducible exact q_same (HI2.out v') (by rfl) hv)); go_simp)
        | (refine w_call ?_ 96 ?_ ?_ ?_ ?_ ?_; (focus (go_simp; done)); rotate_left; (focus (intro v; go_simp; rfl)); rotate_left; (focus (intro v' hv; with_reducible exact q_same (HI3.out v') (by rfl) hv)); go_simp)
        | (refine w_call ?_ 96 ?_ ?_ ?_ ?_ ?_; (focus (go_simp; done)); rotate_left; (focus (intro v; go_simp; rfl)); rotate_left; (focus (intro v' hv; with_reducible exact q_same (HI4.out v') (by rfl) hv)); go_simp)
        | (refine w_call ?_ 96 ?_ ?_ ?_ ?_ ?_; (focus (go_simp; done)); rotate_left; (focus (intro v; go_simp; rfl)); rotate_left; (focus (intro v' hv; with_reducible exact q_same (HI5.out v') (by rfl) hv)); go_simp)
        | (refine w_call ?_ 98 ?_ ?_ ?_ ?_ ?_; (focus (go_simp; done)); rotate_left; (focus (intro v; go_simp; rfl)); rotate_left; (focus (intro v hv; exact q_grow (HO.out v) (by rfl) hv)); go_simp)
        | (refine w_call ?_ 97 ?_ ?_ ?_ ?_ ?_; (focus (go_simp; done)); rotate_left; (focus (intro v; go_simp; rfl)); rotate_left; (focus (intro v hv; exact q_grow (HS.out v (B1.out.trans (hv.mono B1.out.size))) (by rfl) hv)); go_simp))
      refine w_nil ?_
      intro w3 hb3
      have HR3 := Lib.hid (HR1.out.below hb3 HR1.out.lt)
      obtain ⟨c0, c1, c2, c3, c4, c5, c6, c7, c8, c9⟩ := HR3.out.q10
      have B3 := Lib.hid (B1.out.trans (hb3.mono B1.out.size))
      clear hb3
      go_wp2_with (go_at_call 70; refine (uentry ⟨ix, tm, kd, a, n, c⟩ _).mono ?_; fail)
      go_ret
      exact ⟨one (vint (by rw [← HU.out]; simp)), by first | exact B4.out | exact B3.out⟩
    · cases b7
      all_goals
        go_enter Try.func58, Try.ntmps58
        go_wp2_with (with_reducible refine box_row (o := ⟨some 1, _, _, _, _, _⟩) rfl _ _ rfl [.int .i64 3, .int .i64 t, .int .i64 v, .int .i64 ix, .int .i64 tm, .int .i64 kd, .slice a n c, .int .i64 i, .int .i64 f, .slice sa sn sc] rfl ?_; intro w1 hr1 hb1 hz1; have HR1 := Lib.hid hr1; have B1 := Lib.hid hb1; clear hr1 hb1 hz1)
        refine region_w (C := fun v => Below w1.heap.size w1 v) (by kernel_rfl) (by kernel_rfl) (Below.refl _ _).drew ?_
        repeat (first
          | (refine w_read (wanted_free rfl) ?_ ?_ ?_; rotate_left; (focus (intro v hv; obtain ⟨c0, c1, c2, c3, c4, c5, c6, c7, c8, c9⟩ := (HR1.out.below hv HR1.out.lt).q10; go_simp; rfl)); go_simp)
          | (refine w_skip ?_ ?_; (focus (go_simp; first | done | (intro h; cases h) | simp)); go_simp)
          | (refine w_read ?_ (.agg [.int .i64 3, .int .i64 t, .int .i64 v, .int .i64 ix, .int .i64 tm, .int .i64 kd, .slice a n c, .int .i64 i, .int .i64 f, .slice sa sn sc].toArray) (fun v hv => load_all _ _ rfl w.heap.size (by go_simp) _ [.int .i64 3, .int .i64 t, .int .i64 v, .int .i64 ix, .int .i64 tm, .int .i64 kd, .slice a n c, .int .i64 i, .int .i64 f, .slice sa sn sc] _ (HR1.out.below hv HR1.out.lt) Try.underlying29 rfl HZ.out) ?_; (focus (go_simp; done)); go_simp)
          | (refine w_read ?_ ?_ ?_ ?_; (focus (go_simp; done)); rotate_left; (focus (intro v hv; obtain ⟨c0, c1, c2, c3, c4, c5, c6, c7, c8, c9⟩ := (HR1.out.below hv HR1.out.lt).q10; go_simp; rfl)); go_simp)
          | (refine w_call ?_ 96 ?_ ?_ ?_ ?_ ?_; (focus (go_simp; done)); rotate_left; (focus (intro v; go_simp; rfl)); rotate_left; (focus (intro v' hv; with_reducible exact q_same (HI0.out v') (by rfl) hv)); go_simp)
          | (refine w_call ?_ 96 ?_ ?_ ?_ ?_ ?_; (focus (go_simp; done)); rotate_left; (focus (intro v; go_simp; rfl)); rotate_left; (focus (intro v' hv; with_reducible exact q_same (HI2.out v') (by rfl) hv)); go_simp)
          | (refine w_call ?_ 96 ?_ ?_ ?_ ?_ ?_; (focus (go_simp; done)); rotate_left; (focus (intro v; go_simp; rfl)); rotate_left; (focus (intro v' hv; with_reducible exact q_same (HI3.out v') (by rfl) hv)); go_simp)
          | (refine w_call ?_ 96 ?_ ?_ ?_ ?_ ?_; (focus (go_simp; done)); rotate_left; (focus (intro v; go_simp; rfl)); rotate_left; (focus (intro v' hv; with_reducible exact q_same (HI4.out v') (by rfl) hv)); go_simp)
          | (refine w_call ?_ 96 ?_ ?_ ?_ ?_ ?_; (focus (go_simp; done)); rotate_left; (focus (intro v; go_simp; rfl)); rotate_left; (focus (intro v' hv; with_reducible exact q_same (HI5.out v') (by rfl) hv)); go_simp)
          | (refine w_call ?_ 98 ?_ ?_ ?_ ?_ ?_; (focus (go_simp; done)); rotate_left; (focus (intro v; go_simp; rfl)); rotate_left; (focus (intro v hv; exact q_grow (HO.out v) (by rfl) hv)); go_simp)
          | (refine w_call ?_ 97 ?_ ?_ ?_ ?_ ?_; (focus (go_simp; done)); rotate_left; (focus (intro v; go_simp; rfl)); rotate_left; (focus (intro v hv; exact q_grow (HS.out v (B1.out.trans (hv.mono B1.out.size))) (by rfl) hv)); go_simp))
        refine w_nil ?_
        intro w3 hb3
        have HR3 := Lib.hid (HR1.out.below hb3 HR1.out.lt)
        obtain ⟨c0, c1, c2, c3, c4, c5, c6, c7, c8, c9⟩ := HR3.out.q10
        have B3 := Lib.hid (B1.out.trans (hb3.mono B1.out.size))
        clear hb3
        go_wp2_with (go_at_call 70; refine (uentry ⟨ix, tm, kd, a, n, c⟩ _).mono ?_; rw [H7.out]; rintro x w4 ⟨rfl, hb4⟩; have B4 := Lib.hid (B3.out.trans (hb4.mono B3.out.size)); obtain ⟨d0, d1, d2, d3, d4, d5, d6, d7, d8, d9⟩ := (HR3.out.below hb4 HR3.out.lt).q10; clear hb4)
        go_ret
        exact ⟨one (vint (by rw [← HU.out]; simp)), by first | exact B4.out | exact B3.out⟩
    · by_cases hi1 : i < 1
      all_goals
        go_enter Try.func58, Try.ntmps58
        go_wp2_with (with_reducible refine box_row (o := ⟨some 1, _, _, _, _, _⟩) rfl _ _ rfl [.int .i64 4, .int .i64 t, .int .i64 v, .int .i64 ix, .int .i64 tm, .int .i64 kd, .slice a n c, .int .i64 i, .int .i64 f, .slice sa sn sc] rfl ?_; intro w1 hr1 hb1 hz1; have HR1 := Lib.hid hr1; have B1 := Lib.hid hb1; clear hr1 hb1 hz1)
        refine region_w (C := fun v => Below w1.heap.size w1 v) (by kernel_rfl) (by kernel_rfl) (Below.refl _ _).drew ?_
        repeat (first
          | (refine w_read (wanted_free rfl) ?_ ?_ ?_; rotate_left; (focus (intro v hv; obtain ⟨c0, c1, c2, c3, c4, c5, c6, c7, c8, c9⟩ := (HR1.out.below hv HR1.out.lt).q10; go_simp; rfl)); go_simp)
          | (refine w_skip ?_ ?_; (focus (go_simp; first | done | (intro h; cases h) | simp)); go_simp)
          | (refine w_read ?_ (.agg [.int .i64 4, .int .i64 t, .int .i64 v, .int .i64 ix, .int .i64 tm, .int .i64 kd, .slice a n c, .int .i64 i, .int .i64 f, .slice sa sn sc].toArray) (fun v hv => load_all _ _ rfl w.heap.size (by go_simp) _ [.int .i64 4, .int .i64 t, .int .i64 v, .int .i64 ix, .int .i64 tm, .int .i64 kd, .slice a n c, .int .i64 i, .int .i64 f, .slice sa sn sc] _ (HR1.out.below hv HR1.out.lt) Try.underlying29 rfl HZ.out) ?_; (focus (go_simp; done)); go_simp)
          | (refine w_read ?_ ?_ ?_ ?_; (focus (go_simp; done)); rotate_left; (focus (intro v hv; obtain ⟨c0, c1, c2, c3, c4, c5, c6, c7, c8, c9⟩ := (HR1.out.below hv HR1.out.lt).q10; go_simp; rfl)); go_simp)
          | (refine w_call ?_ 96 ?_ ?_ ?_ ?_ ?_; (focus (go_simp; done)); rotate_left; (focus (intro v; go_simp; rfl)); rotate_left; (focus (intro v' hv; with_reducible exact q_same (HI0.out v') (by rfl) hv)); go_simp)
          | (refine w_call ?_ 96 ?_ ?_ ?_ ?_ ?_; (focus (go_simp; done)); rotate_left; (focus (intro v; go_simp; rfl)); rotate_left; (focus (intro v' hv; with_reducible exact q_same (HI2.out v') (by rfl) hv)); go_simp)
          | (refine w_call ?_ 96 ?_ ?_ ?_ ?_ ?_; (focus (go_simp; done)); rotate_left; (focus (intro v; go_simp; rfl)); rotate_left; (focus (intro v' hv; with_reducible exact q_same (HI3.out v') (by rfl) hv)); go_simp)
          | (refine w_call ?_ 96 ?_ ?_ ?_ ?_ ?_; (focus (go_simp; done)); rotate_left; (focus (intro v; go_simp; rfl)); rotate_left; (focus (intro v' hv; with_reducible exact q_same (HI4.out v') (by rfl) hv)); go_simp)
          | (refine w_call ?_ 96 ?_ ?_ ?_ ?_ ?_; (focus (go_simp; done)); rotate_left; (focus (intro v; go_simp; rfl)); rotate_left; (focus (intro v' hv; with_reducible exact q_same (HI5.out v') (by rfl) hv)); go_simp)
          | (refine w_call ?_ 98 ?_ ?_ ?_ ?_ ?_; (focus (go_simp; done)); rotate_left; (focus (intro v; go_simp; rfl)); rotate_left; (focus (intro v hv; exact q_grow (HO.out v) (by rfl) hv)); go_simp)
          | (refine w_call ?_ 97 ?_ ?_ ?_ ?_ ?_; (focus (go_simp; done)); rotate_left; (focus (intro v; go_simp; rfl)); rotate_left; (focus (intro v hv; exact q_grow (HS.out v (B1.out.trans (hv.mono B1.out.size))) (by rfl) hv)); go_simp))
        refine w_nil ?_
        intro w3 hb3
        have HR3 := Lib.hid (HR1.out.below hb3 HR1.out.lt)
        obtain ⟨c0, c1, c2, c3, c4, c5, c6, c7, c8, c9⟩ := HR3.out.q10
        have B3 := Lib.hid (B1.out.trans (hb3.mono B1.out.size))
        clear hb3
        go_wp2_with (go_at_call 70; refine (uentry ⟨ix, tm, kd, a, n, c⟩ _).mono ?_; rw [H7.out]; rintro x w4 ⟨rfl, hb4⟩; have B4 := Lib.hid (B3.out.trans (hb4.mono B3.out.size)); obtain ⟨d0, d1, d2, d3, d4, d5, d6, d7, d8, d9⟩ := (HR3.out.below hb4 HR3.out.lt).q10; clear hb4)
        go_ret
        exact ⟨one (vint (by rw [← HU.out]; simp; omega)), by first | exact B4.out | exact B3.out⟩
end Go.Proofs.Ytbcaphkbjeejhaa.W
