/- LAYER 20 (manifest): the reference's below, one, Check, all. LAYER 20 (manifest): the reference's all, Remove. LAYER 20 (manifest): the reference's Add. -/
import Derived.Test.YtpcpgodnhamdiaaMfM
import Derived.Test.YtpcpgodnhamdiaaLn
import Derived.Test.YtpcpgodnhamdiaaMfW
set_option linter.unusedSimpArgs false
set_option linter.unusedVariables false
namespace Go.Proofs.Ytpcpgodnhamdiaa.W
open Go Go.ChangeShapes Go.WideShapes Go.ChangeAt Go.RowKit
open Go.Proofs.Ytpcpgodnhamdiaa.P (enc dec)
open Go.Proofs.Ytpcpgodnhamdiaa.S

set_option maxRecDepth 100000 in
set_option maxHeartbeats 4000000 in
theorem rwinM (n lo hi : Int) (v : Bool) (hv : in64 n lo hi = v) (w : World) : Calls Try.prog 76 #[.int .i64 n, .int .i64 lo, .int .i64 hi] w fun e w' => e = .returned (.bool v) ∧ w = w' := by
  have HV := Lib.hid hv
  by_cases h : lo ≤ n
  · have HA := Lib.hid (show in64 n lo hi = decide (n ≤ hi) by unfold in64; rw [decide_eq_true h]; rfl)
    clear hv
    go_enter Try.func76, Try.ntmps76
    go_wp2_with fail
    go_ret
    exact ⟨one (vbool (by rw [← HV.out, HA.out]; first | done | rfl | simp)), rfl⟩
  · have HA := Lib.hid (show in64 n lo hi = false by unfold in64; rw [decide_eq_false h]; rfl)
    clear hv
    go_enter Try.func76, Try.ntmps76
    go_wp2_with fail
    go_ret
    exact ⟨one (vbool (by rw [← HV.out, HA.out]; first | done | rfl | simp)), rfl⟩
set_option maxRecDepth 100000 in
set_option maxHeartbeats 4000000 in
theorem ubelow (x y : SnX) (w : World) : Calls Try.prog 47 #[.agg x.cells.toArray, .agg y.cells.toArray] w fun e w' => e = .returned (.bool (belowM x.s y.s)) ∧ Below w.heap.size w w' := by
  obtain ⟨⟨xs, xn, xb, xt, xk, P⟩, xa, xm, xc⟩ := x
  obtain ⟨⟨ys, yn, yb, yt, yk, Q⟩, ya, ym, yc⟩ := y
  obtain ⟨b0, e0⟩ : ∃ b, Op.bytesLess xs.toList ys.toList = b := ⟨_, rfl⟩
  obtain ⟨b1, e1⟩ : ∃ b, (xs.toList == ys.toList) = b := ⟨_, rfl⟩
  obtain ⟨b2, e2⟩ : ∃ b, Op.bytesLess xn.toList yn.toList = b := ⟨_, rfl⟩
  have HC := Lib.hid (show belowM ⟨xs, xn, xb, xt, xk, P⟩ ⟨ys, yn, yb, yt, yk, Q⟩ = (b0 || (b1 && b2)) by rw [← e0, ← e1, ← e2]; rfl)
  cases b0 <;> cases b1 <;> cases b2
  all_goals
    go_enter Try.func47, Try.ntmps47
    go_wp2_with (first
      | ((with_reducible refine box_row (o := ⟨some 2, _, _, _, _, _⟩) rfl _ _ rfl (snC xs xn xb xt xk xa xm xc) rfl ?_); intro w1 hr hb hz; have R1 := Lib.hid hr; have B1 := Lib.hid hb; clear hr hb hz)
      | ((with_reducible refine box_row (o := ⟨some 3, _, _, _, _, _⟩) rfl _ _ rfl (snC ys yn yb yt yk ya ym yc) rfl ?_); intro w2 hr hb hz; have R2 := Lib.hid (R1.out.below hb R1.out.lt); obtain ⟨c0, c1, c2, c3, c4, c5⟩ := R2.out.h6s; obtain ⟨d0, d1, d2, d3, d4, d5⟩ := hr.h6s; have B2 := Lib.hid (B1.out.trans (hb.mono B1.out.size)); clear hr hb hz))
    go_ret
    exact ⟨one (vbool (by rw [HC.out]; first | done | rfl | simp)), B2.out⟩
set_option maxRecDepth 100000 in
set_option maxHeartbeats 16000000 in
theorem uone (x : SnX) (w : World) (h : x.fit w) : Calls Try.prog 45 #[.agg x.cells.toArray] w fun e w' => e = .returned (.bool (okM x.s)) ∧ Below w.heap.size w w' := by
  obtain ⟨⟨sp, nm, bt, ti, ke, P⟩, pa, pm, pc⟩ := x
  have HN1 := Lib.hid (fun w => uname sp w h.sp)
  have HN2 := Lib.hid (fun w => uname nm w h.nm)
  have HBY := Lib.hid (fun w' (hb : Below w.heap.size w w') => ubytes pa pm pc P w' (h.P.mono pcOk hb))
  obtain ⟨b0, h0⟩ : ∃ b, nameV sp = b := ⟨_, rfl⟩
  obtain ⟨b1, h1⟩ : ∃ b, nameV nm = b := ⟨_, rfl⟩
  obtain ⟨N, e, hN⟩ : ∃ x y, bytesM P = (x, y) := ⟨_, _, rfl⟩
  obtain ⟨b2, h2⟩ : ∃ b, decide (e = 0) = b := ⟨_, rfl⟩
  obtain ⟨b3, h3⟩ : ∃ b, decide (N = bt) = b := ⟨_, rfl⟩
  obtain ⟨b4, h4⟩ : ∃ b, in64 ti 0 1099511627776 = b := ⟨_, rfl⟩
  obtain ⟨b5, h5⟩ : ∃ b, in64 ke 0 1099511627776 = b := ⟨_, rfl⟩
  have HX := Lib.hid (show okM ⟨sp, nm, bt, ti, ke, P⟩ = (b2 && (b3 && (b0 && (b1 && (b4 && b5))))) by unfold okM; dsimp only; rw [hN]; dsimp only; rw [h0, h1, h2, h3, h4, h5])
  have gb2 : (e == 0) = b2 := by rw [← h2, Bool.eq_iff_iff]; simp
  have gb3 : (N == bt) = b3 := by rw [← h3, Bool.eq_iff_iff]; simp
  rw [hN] at HBY
  rw [h0] at HN1
  rw [h1] at HN2
  have HW1 := Lib.hid (fun w => rwinM ti 0 1099511627776 b4 h4 w)
  have HW2 := Lib.hid (fun w => rwinM ke 0 1099511627776 b5 h5 w)
  clear h h0 h1 h2 h3 h4 h5 hN
  rcases (show (b2 = false) ∨ (b2 = true ∧ b3 = false) ∨ (b2 = true ∧ b3 = true ∧ b0 = false) ∨ (b2 = true ∧ b3 = true ∧ b0 = true ∧ b1 = false) ∨ (b2 = true ∧ b3 = true ∧ b0 = true ∧ b1 = true ∧ b4 = false) ∨ (b2 = true ∧ b3 = true ∧ b0 = true ∧ b1 = true ∧ b4 = true) by cases b2 <;> cases b3 <;> cases b0 <;> cases b1 <;> cases b4 <;> simp) with rfl | ⟨rfl, rfl⟩ | ⟨rfl, rfl, rfl⟩ | ⟨rfl, rfl, rfl, rfl⟩ | ⟨rfl, rfl, rfl, rfl, rfl⟩ | ⟨rfl, rfl, rfl, rfl, rfl⟩
  all_goals
    go_enter Try.func45, Try.ntmps45
    go_wp2_with (first
      | ((with_reducible refine box_row (o := ⟨some 1, _, _, _, _, _⟩) rfl _ _ rfl (snC sp nm bt ti ke pa pm pc) rfl ?_); intro w1 hr1 hb1 hz1; have R1 := Lib.hid hr1; obtain ⟨c0, c1, c2, c3, c4, c5⟩ := hr1.h6s; have B1 := Lib.hid hb1; clear hr1 hb1 hz1)
      | (go_at_call 18; (with_reducible refine (HBY.out w1 B1.out).mono ?_); rintro x w2 ⟨rfl, hb⟩; have RZ := Lib.hid (R1.out.below hb R1.out.lt); have BZ := Lib.hid (B1.out.trans (hb.mono B1.out.size)); clear c0 c1 c2 c3 c4 c5; obtain ⟨c0, c1, c2, c3, c4, c5⟩ := RZ.out.h6s; clear hb)
      | (go_at_call 75; with_reducible refine (HN1.out _).mono ?_; rintro x w' ⟨rfl, rfl⟩)
      | (go_at_call 75; with_reducible refine (HN2.out _).mono ?_; rintro x w' ⟨rfl, rfl⟩)
      | (go_at_call 76; with_reducible refine (HW1.out _).mono ?_; rintro x w' ⟨rfl, rfl⟩)
      | (go_at_call 76; with_reducible refine (HW2.out _).mono ?_; rintro x w' ⟨rfl, rfl⟩))
    go_ret
    exact ⟨one (vbool (by rw [HX.out]; first | done | rfl | simp)), BZ.out⟩
theorem chkM_next (L : List Sn) (k : Nat) (x y : Sn) (hx : L[k]? = some x) (hy : L[k + 1]? = some y) : chkM none (L.take (k + 1 + 1)) = (chkM none (L.take (k + 1)) && (okM y && belowM x y)) := by
  rw [chkM_split, chkM_split, riseM_next L k x y hx hy, allMs_next L (k + 1) y hy]
  cases riseM none (L.take (k + 1)) <;> cases (L.take (k + 1)).all okM <;> cases belowM x y <;> cases okM y <;> rfl
theorem chkM_one (L : List Sn) (x : Sn) (hx : L[0]? = some x) : chkM none (L.take (0 + 1)) = okM x := by
  cases L with
  | nil => simp at hx
  | cons s L => simp at hx; subst hx; simp [chkM, behM]
theorem chkM_take (L : List Sn) (k : Nat) (h : chkM none L = true) : chkM none (L.take k) = true := by
  rw [chkM_split, Bool.and_eq_true] at h ⊢
  exact ⟨riseM_take L none k h.1, allMs_take L k h.2⟩
set_option maxRecDepth 100000 in
set_option maxHeartbeats 16000000 in
theorem umcheck (a : Option Addr) (n c : Nat) (L : List Sn) (w : World) (h : SnL w a n c L) :
    Calls Try.prog 15 #[.slice a n c] w fun x w' => x = .returned (.bool (checkM L)) ∧ Below w.heap.size w w' := by
  obtain ⟨X, h, hXL⟩ := h
  have H := Lib.hid h
  have HL := Lib.hid (show L.length = n by rw [← hXL, List.length_map, h.hlen])
  have HXL := Lib.hid hXL
  have hm := h.hmax
  have hle := h.hle
  have SZ := Lib.hid sn_size
  obtain ⟨V, hV⟩ : ∃ V, checkM L = V := ⟨_, rfl⟩
  rw [hV]
  have HV := Lib.hid (show (decide (n ≤ 12) && chkM none L) = V by rw [← hV, ← HL.out]; rfl)
  have HBAD := Lib.hid (fun k (hb : chkM none (L.take k) = false) => (show V = false by
    rw [← HV.out]
    cases hc : chkM none L with
    | false => simp
    | true => rw [chkM_take L k hc] at hb; cases hb))
  clear h hV hXL
  go_enter Try.func15, Try.ntmps15
  go_wp2_with fail
  go_loopw [3] (fun i wr => ∃ k : Nat, i = .int .i64 (k : Int) ∧ k ≤ n ∧ Hid (chkM none (L.take k) = true) ∧ Hid (Below w.heap.size w wr)) (fun i _ => n - (intOf i).toNat)
  case atStart => exact ⟨0, rfl, Nat.zero_le _, Lib.hid (by simp [chkM]), Lib.hid (Below.refl _ _)⟩
  case round =>
    obtain ⟨k, rfl, hk, P, B⟩ := hrel
    by_cases hlt : k < n
    · obtain ⟨b, off, y, rfl, hy, hcy, hfy⟩ := H.out.at snOk B.out k hlt
      have hmy := map_at HXL.out hy
      have HONE := Lib.hid (fun w' (hb : Below wr.heap.size wr w') => uone y w' (snOk.mono y _ _ hfy hb))
      obtain ⟨ok, hok⟩ : ∃ z, okM y.s = z := ⟨_, rfl⟩
      rw [hok] at HONE
      cases k with
      | zero =>
        have hnx := chkM_one L y.s hmy
        rw [hok] at hnx
        obtain ⟨⟨ys, yn, yb, yt, yk, yp⟩, ya, ym, yc⟩ := y
        have YC := Lib.hid hcy
        have g2 : (0 : Int) < (n : Int) := by omega
        have hz0 : ((0 : Nat) : Int) = 0 := rfl
        rw [hz0]
        clear hcy hy hfy hmy hok
        cases ok
        · have HF := Lib.hid (HBAD.out _ hnx)
          clear hnx
          go_wp2_with fail
          refine region_h (fun v => Below wr.heap.size wr v) (by kernel_rfl) (by kernel_rfl) (Below.refl _ _).drew ?_
          obtain ⟨wd, hwd⟩ : ∃ wd, wr.drew = wd := ⟨_, rfl⟩
          have J0 : Hid (Below wr.heap.size wr wd) := Lib.hid (by rw [← hwd]; exact (Below.refl _ _).drew)
          rw [hwd]
          clear hwd
          (refine h_read 0 rfl (by kernel_rfl) (by kernel_rfl) (h_free rfl) ?_ ?_ ?_; rotate_left; (focus (intro v hv; go_simp; rfl)); go_simp)
          (refine h_read 1 rfl (by kernel_rfl) (by kernel_rfl) (h_free rfl) ?_ ?_ ?_; rotate_left; (focus (intro v hv; go_simp; rfl)); go_simp)
          (refine h_read 2 rfl (by kernel_rfl) (by kernel_rfl) (h_free rfl) ?_ ?_ ?_; rotate_left; (focus (intro v hv; go_simp; rfl)); go_simp)
          (refine h_read 3 rfl (by kernel_rfl) (by kernel_rfl) (h_free rfl) ?_ ?_ ?_; rotate_left; (focus (intro v hv; refine run_cells 25 (.tmp 12) ?_ b (off + 0 * 6) ?_ (snC ys yn yb yt yk ya ym yc) _ (fun j' u hj => by rw [hv.cell (p := ⟨b, off + 0 * 6 + j', none⟩) (World.block_lt_of_cell? wr _ (YC.out j' u hj))]; exact YC.out j' u hj) Try.underlying25 rfl sn_size; (focus rfl); go_simp)); go_simp)
          (refine h_call 4 rfl (by kernel_rfl) (h_free rfl) 45 ?_ ?_ ?_; rotate_left; (focus (go_simp; rfl)))
          refine (HONE.out wd J0.out).mono ?_
          rintro z d1 ⟨rfl, hb⟩
          have J1 := Lib.hid (J0.out.trans (hb.mono J0.out.size))
          clear hb
          refine ⟨_, rfl, J1.out, ?_⟩
          go_simp
          (refine h_read 5 rfl (by kernel_rfl) (by kernel_rfl) (h_free rfl) ?_ ?_ ?_; rotate_left; (focus (intro v hv; go_simp; rfl)); go_simp)
          (refine h_read 6 rfl (by kernel_rfl) (by kernel_rfl) (h_free rfl) ?_ ?_ ?_; rotate_left; (focus (intro v hv; go_simp; rfl)); go_simp)
          (refine h_skip 7 rfl (by kernel_rfl) (by kernel_rfl) ?_ ?_; (focus (go_simp; first | done | (intro h; cases h) | simp)); go_simp)
          (refine h_skip 8 rfl (by kernel_rfl) (by kernel_rfl) ?_ ?_; (focus (go_simp; first | done | (intro h; cases h) | simp)); go_simp)
          (refine h_skip 9 rfl (by kernel_rfl) (by kernel_rfl) ?_ ?_; (focus (go_simp; first | done | (intro h; cases h) | simp)); go_simp)
          (refine h_skip 10 rfl (by kernel_rfl) (by kernel_rfl) ?_ ?_; (focus (go_simp; first | done | (intro h; cases h) | simp)); go_simp)
          (refine h_skip 11 rfl (by kernel_rfl) (by kernel_rfl) ?_ ?_; (focus (go_simp; first | done | (intro h; cases h) | simp)); go_simp)
          (refine h_skip 12 rfl (by kernel_rfl) (by kernel_rfl) ?_ ?_; (focus (go_simp; first | done | (intro h; cases h) | simp)); go_simp)
          (refine h_skip 13 rfl (by kernel_rfl) (by kernel_rfl) ?_ ?_; (focus (go_simp; first | done | (intro h; cases h) | simp)); go_simp)
          (refine h_skip 14 rfl (by kernel_rfl) (by kernel_rfl) ?_ ?_; (focus (go_simp; first | done | (intro h; cases h) | simp)); go_simp)
          (refine h_skip 15 rfl (by kernel_rfl) (by kernel_rfl) ?_ ?_; (focus (go_simp; first | done | (intro h; cases h) | simp)); go_simp)
          (refine h_skip 16 rfl (by kernel_rfl) (by kernel_rfl) ?_ ?_; (focus (go_simp; first | done | (intro h; cases h) | simp)); go_simp)
          (refine h_skip 17 rfl (by kernel_rfl) (by kernel_rfl) ?_ ?_; (focus (go_simp; first | done | (intro h; cases h) | simp)); go_simp)
          (refine h_skip 18 rfl (by kernel_rfl) (by kernel_rfl) ?_ ?_; (focus (go_simp; first | done | (intro h; cases h) | simp)); go_simp)
          (refine h_skip 19 rfl (by kernel_rfl) (by kernel_rfl) ?_ ?_; (focus (go_simp; first | done | (intro h; cases h) | simp)); go_simp)
          (refine h_skip 20 rfl (by kernel_rfl) (by kernel_rfl) ?_ ?_; (focus (go_simp; first | done | (intro h; cases h) | simp)); go_simp)
          (refine h_skip 21 rfl (by kernel_rfl) (by kernel_rfl) ?_ ?_; (focus (go_simp; first | done | (intro h; cases h) | simp)); go_simp)
          (refine h_read 22 rfl (by kernel_rfl) (by kernel_rfl) (h_free rfl) ?_ ?_ ?_; rotate_left; (focus (intro v hv; go_simp; rfl)); go_simp)
          refine h_done (by kernel_rfl) ?_
          go_wp2_with fail
          go_ret
          exact ⟨one (vbool (by rw [HF.out])), B.out.trans (J1.out.mono B.out.size)⟩
        · have HN := Lib.hid hnx
          clear hnx
          go_wp2_with fail
          refine region_h (fun v => Below wr.heap.size wr v) (by kernel_rfl) (by kernel_rfl) (Below.refl _ _).drew ?_
          obtain ⟨wd, hwd⟩ : ∃ wd, wr.drew = wd := ⟨_, rfl⟩
          have J0 : Hid (Below wr.heap.size wr wd) := Lib.hid (by rw [← hwd]; exact (Below.refl _ _).drew)
          rw [hwd]
          clear hwd
          (refine h_read 0 rfl (by kernel_rfl) (by kernel_rfl) (h_free rfl) ?_ ?_ ?_; rotate_left; (focus (intro v hv; go_simp; rfl)); go_simp)
          (refine h_read 1 rfl (by kernel_rfl) (by kernel_rfl) (h_free rfl) ?_ ?_ ?_; rotate_left; (focus (intro v hv; go_simp; rfl)); go_simp)
          (refine h_read 2 rfl (by kernel_rfl) (by kernel_rfl) (h_free rfl) ?_ ?_ ?_; rotate_left; (focus (intro v hv; go_simp; rfl)); go_simp)
          (refine h_read 3 rfl (by kernel_rfl) (by kernel_rfl) (h_free rfl) ?_ ?_ ?_; rotate_left; (focus (intro v hv; refine run_cells 25 (.tmp 12) ?_ b (off + 0 * 6) ?_ (snC ys yn yb yt yk ya ym yc) _ (fun j' u hj => by rw [hv.cell (p := ⟨b, off + 0 * 6 + j', none⟩) (World.block_lt_of_cell? wr _ (YC.out j' u hj))]; exact YC.out j' u hj) Try.underlying25 rfl sn_size; (focus rfl); go_simp)); go_simp)
          (refine h_call 4 rfl (by kernel_rfl) (h_free rfl) 45 ?_ ?_ ?_; rotate_left; (focus (go_simp; rfl)))
          refine (HONE.out wd J0.out).mono ?_
          rintro z d1 ⟨rfl, hb⟩
          have J1 := Lib.hid (J0.out.trans (hb.mono J0.out.size))
          clear hb
          refine ⟨_, rfl, J1.out, ?_⟩
          go_simp
          (refine h_read 5 rfl (by kernel_rfl) (by kernel_rfl) (h_free rfl) ?_ ?_ ?_; rotate_left; (focus (intro v hv; go_simp; rfl)); go_simp)
          (refine h_read 6 rfl (by kernel_rfl) (by kernel_rfl) (h_free rfl) ?_ ?_ ?_; rotate_left; (focus (intro v hv; go_simp; rfl)); go_simp)
          (refine h_read 7 rfl (by kernel_rfl) (by kernel_rfl) ?_ ?_ ?_ ?_; (focus (go_simp; done)); rotate_left; (focus (intro v hv; go_simp; rfl)); go_simp)
          (refine h_read 8 rfl (by kernel_rfl) (by kernel_rfl) ?_ ?_ ?_ ?_; (focus (go_simp; done)); rotate_left; (focus (intro v hv; go_simp; rfl)); go_simp)
          (refine h_read 9 rfl (by kernel_rfl) (by kernel_rfl) ?_ ?_ ?_ ?_; (focus (go_simp; done)); rotate_left; (focus (intro v hv; go_simp; rfl)); go_simp)
          (refine h_skip 10 rfl (by kernel_rfl) (by kernel_rfl) ?_ ?_; (focus (go_simp; first | done | (intro h; cases h) | simp)); go_simp)
          (refine h_skip 11 rfl (by kernel_rfl) (by kernel_rfl) ?_ ?_; (focus (go_simp; first | done | (intro h; cases h) | simp)); go_simp)
          (refine h_skip 12 rfl (by kernel_rfl) (by kernel_rfl) ?_ ?_; (focus (go_simp; first | done | (intro h; cases h) | simp)); go_simp)
          (refine h_skip 13 rfl (by kernel_rfl) (by kernel_rfl) ?_ ?_; (focus (go_simp; first | done | (intro h; cases h) | simp)); go_simp)
          (refine h_skip 14 rfl (by kernel_rfl) (by kernel_rfl) ?_ ?_; (focus (go_simp; first | done | (intro h; cases h) | simp)); go_simp)
          (refine h_skip 15 rfl (by kernel_rfl) (by kernel_rfl) ?_ ?_; (focus (go_simp; first | done | (intro h; cases h) | simp)); go_simp)
          (refine h_skip 16 rfl (by kernel_rfl) (by kernel_rfl) ?_ ?_; (focus (go_simp; first | done | (intro h; cases h) | simp)); go_simp)
          (refine h_skip 17 rfl (by kernel_rfl) (by kernel_rfl) ?_ ?_; (focus (go_simp; first | done | (intro h; cases h) | simp)); go_simp)
          (refine h_skip 18 rfl (by kernel_rfl) (by kernel_rfl) ?_ ?_; (focus (go_simp; first | done | (intro h; cases h) | simp)); go_simp)
          (refine h_skip 19 rfl (by kernel_rfl) (by kernel_rfl) ?_ ?_; (focus (go_simp; first | done | (intro h; cases h) | simp)); go_simp)
          (refine h_skip 20 rfl (by kernel_rfl) (by kernel_rfl) ?_ ?_; (focus (go_simp; first | done | (intro h; cases h) | simp)); go_simp)
          (refine h_read 21 rfl (by kernel_rfl) (by kernel_rfl) ?_ ?_ ?_ ?_; (focus (go_simp; done)); rotate_left; (focus (intro v hv; go_simp; rfl)); go_simp)
          (refine h_read 22 rfl (by kernel_rfl) (by kernel_rfl) (h_free rfl) ?_ ?_ ?_; rotate_left; (focus (intro v hv; go_simp; rfl)); go_simp)
          refine h_done (by kernel_rfl) ?_
          go_wp2_with fail
          go_roundw
          case rel => exact ⟨1, vint (by omega), by omega, HN, Lib.hid (B.out.trans (J1.out.mono B.out.size))⟩
          case measure => simp [intOf]; omega
      | succ k =>
        obtain ⟨b2, o2, x, hab, hx, hcx, -⟩ := H.out.at snOk B.out k (by omega)
        obtain ⟨rfl, rfl⟩ : b = b2 ∧ off = o2 := by injection hab with hab; injection hab with e1 e2; exact ⟨e1, e2⟩
        have hnx := chkM_next L k x.s y.s (map_at HXL.out hx) hmy
        rw [P.out, Bool.true_and, hok] at hnx
        have HK := Lib.hid (fun w => ubelow x y w)
        obtain ⟨bl, hbl⟩ : ∃ z, belowM x.s y.s = z := ⟨_, rfl⟩
        rw [hbl] at HK hnx
        obtain ⟨⟨xs, xn, xb, xt, xk, xp⟩, xa, xm, xc⟩ := x
        obtain ⟨⟨ys, yn, yb, yt, yk, yp⟩, ya, ym, yc⟩ := y
        have XC := Lib.hid hcx
        have YC := Lib.hid hcy
        have hz0 : ((k + 1 : Nat) : Int) = (k : Int) + 1 := by omega
        rw [hz0]
        have g1 : (0 : Int) ≤ (k : Int) := by omega
        have g2 : (k : Int) < (n : Int) := by omega
        have g3 : (0 : Int) ≤ (k : Int) + 1 := by omega
        have g4 : (k : Int) + 1 < (n : Int) := by omega
        have g5 : (0 : Int) < (k : Int) + 1 := by omega
        have hwr : IntKind.i64.wrap (k : Int) = (k : Int) := by rw [IntKind.wrap_i64]; omega
        have hnt : (((k : Nat) : Int) + 1).toNat = k + 1 := by omega
        clear hcx hcy hx hy hab hfy hmy hok hbl hz0
        cases ok
        · have HF := Lib.hid (HBAD.out _ hnx)
          clear hnx
          go_wp2_with fail
          refine region_h (fun v => Below wr.heap.size wr v) (by kernel_rfl) (by kernel_rfl) (Below.refl _ _).drew ?_
          obtain ⟨wd, hwd⟩ : ∃ wd, wr.drew = wd := ⟨_, rfl⟩
          have J0 : Hid (Below wr.heap.size wr wd) := Lib.hid (by rw [← hwd]; exact (Below.refl _ _).drew)
          rw [hwd]
          clear hwd
          (refine h_read 0 rfl (by kernel_rfl) (by kernel_rfl) (h_free rfl) ?_ ?_ ?_; rotate_left; (focus (intro v hv; go_simp; rfl)); go_simp)
          (refine h_read 1 rfl (by kernel_rfl) (by kernel_rfl) (h_free rfl) ?_ ?_ ?_; rotate_left; (focus (intro v hv; go_simp; rfl)); go_simp)
          (refine h_read 2 rfl (by kernel_rfl) (by kernel_rfl) (h_free rfl) ?_ ?_ ?_; rotate_left; (focus (intro v hv; go_simp; rfl)); go_simp)
          (refine h_read 3 rfl (by kernel_rfl) (by kernel_rfl) (h_free rfl) ?_ ?_ ?_; rotate_left; (focus (intro v hv; refine run_cells 25 (.tmp 12) ?_ b (off + (k + 1) * 6) ?_ (snC ys yn yb yt yk ya ym yc) _ (fun j' u hj => by rw [hv.cell (p := ⟨b, off + (k + 1) * 6 + j', none⟩) (World.block_lt_of_cell? wr _ (YC.out j' u hj))]; exact YC.out j' u hj) Try.underlying25 rfl sn_size; (focus rfl); go_simp)); go_simp)
          (refine h_call 4 rfl (by kernel_rfl) (h_free rfl) 45 ?_ ?_ ?_; rotate_left; (focus (go_simp; rfl)))
          refine (HONE.out wd J0.out).mono ?_
          rintro z d1 ⟨rfl, hb⟩
          have J1 := Lib.hid (J0.out.trans (hb.mono J0.out.size))
          clear hb
          refine ⟨_, rfl, J1.out, ?_⟩
          go_simp
          (refine h_read 5 rfl (by kernel_rfl) (by kernel_rfl) (h_free rfl) ?_ ?_ ?_; rotate_left; (focus (intro v hv; go_simp; rfl)); go_simp)
          (refine h_read 6 rfl (by kernel_rfl) (by kernel_rfl) (h_free rfl) ?_ ?_ ?_; rotate_left; (focus (intro v hv; go_simp; rfl)); go_simp)
          (refine h_skip 7 rfl (by kernel_rfl) (by kernel_rfl) ?_ ?_; (focus (go_simp; first | done | (intro h; cases h) | simp)); go_simp)
          (refine h_skip 8 rfl (by kernel_rfl) (by kernel_rfl) ?_ ?_; (focus (go_simp; first | done | (intro h; cases h) | simp)); go_simp)
          (refine h_skip 9 rfl (by kernel_rfl) (by kernel_rfl) ?_ ?_; (focus (go_simp; first | done | (intro h; cases h) | simp)); go_simp)
          (refine h_skip 10 rfl (by kernel_rfl) (by kernel_rfl) ?_ ?_; (focus (go_simp; first | done | (intro h; cases h) | simp)); go_simp)
          (refine h_skip 11 rfl (by kernel_rfl) (by kernel_rfl) ?_ ?_; (focus (go_simp; first | done | (intro h; cases h) | simp)); go_simp)
          (refine h_skip 12 rfl (by kernel_rfl) (by kernel_rfl) ?_ ?_; (focus (go_simp; first | done | (intro h; cases h) | simp)); go_simp)
          (refine h_skip 13 rfl (by kernel_rfl) (by kernel_rfl) ?_ ?_; (focus (go_simp; first | done | (intro h; cases h) | simp)); go_simp)
          (refine h_skip 14 rfl (by kernel_rfl) (by kernel_rfl) ?_ ?_; (focus (go_simp; first | done | (intro h; cases h) | simp)); go_simp)
          (refine h_skip 15 rfl (by kernel_rfl) (by kernel_rfl) ?_ ?_; (focus (go_simp; first | done | (intro h; cases h) | simp)); go_simp)
          (refine h_skip 16 rfl (by kernel_rfl) (by kernel_rfl) ?_ ?_; (focus (go_simp; first | done | (intro h; cases h) | simp)); go_simp)
          (refine h_skip 17 rfl (by kernel_rfl) (by kernel_rfl) ?_ ?_; (focus (go_simp; first | done | (intro h; cases h) | simp)); go_simp)
          (refine h_skip 18 rfl (by kernel_rfl) (by kernel_rfl) ?_ ?_; (focus (go_simp; first | done | (intro h; cases h) | simp)); go_simp)
          (refine h_skip 19 rfl (by kernel_rfl) (by kernel_rfl) ?_ ?_; (focus (go_simp; first | done | (intro h; cases h) | simp)); go_simp)
          (refine h_skip 20 rfl (by kernel_rfl) (by kernel_rfl) ?_ ?_; (focus (go_simp; first | done | (intro h; cases h) | simp)); go_simp)
          (refine h_skip 21 rfl (by kernel_rfl) (by kernel_rfl) ?_ ?_; (focus (go_simp; first | done | (intro h; cases h) | simp)); go_simp)
          (refine h_read 22 rfl (by kernel_rfl) (by kernel_rfl) (h_free rfl) ?_ ?_ ?_; rotate_left; (focus (intro v hv; go_simp; rfl)); go_simp)
          refine h_done (by kernel_rfl) ?_
          go_wp2_with fail
          go_ret
          exact ⟨one (vbool (by rw [HF.out])), B.out.trans (J1.out.mono B.out.size)⟩
        · cases bl
          · have HF := Lib.hid (HBAD.out _ hnx)
            clear hnx
            go_wp2_with fail
            refine region_h (fun v => Below wr.heap.size wr v) (by kernel_rfl) (by kernel_rfl) (Below.refl _ _).drew ?_
            obtain ⟨wd, hwd⟩ : ∃ wd, wr.drew = wd := ⟨_, rfl⟩
            have J0 : Hid (Below wr.heap.size wr wd) := Lib.hid (by rw [← hwd]; exact (Below.refl _ _).drew)
            rw [hwd]
            clear hwd
            (refine h_read 0 rfl (by kernel_rfl) (by kernel_rfl) (h_free rfl) ?_ ?_ ?_; rotate_left; (focus (intro v hv; go_simp; rfl)); go_simp)
            (refine h_read 1 rfl (by kernel_rfl) (by kernel_rfl) (h_free rfl) ?_ ?_ ?_; rotate_left; (focus (intro v hv; go_simp; rfl)); go_simp)
            (refine h_read 2 rfl (by kernel_rfl) (by kernel_rfl) (h_free rfl) ?_ ?_ ?_; rotate_left; (focus (intro v hv; go_simp; rfl)); go_simp)
            (refine h_read 3 rfl (by kernel_rfl) (by kernel_rfl) (h_free rfl) ?_ ?_ ?_; rotate_left; (focus (intro v hv; refine run_cells 25 (.tmp 12) ?_ b (off + (k + 1) * 6) ?_ (snC ys yn yb yt yk ya ym yc) _ (fun j' u hj => by rw [hv.cell (p := ⟨b, off + (k + 1) * 6 + j', none⟩) (World.block_lt_of_cell? wr _ (YC.out j' u hj))]; exact YC.out j' u hj) Try.underlying25 rfl sn_size; (focus rfl); go_simp)); go_simp)
            (refine h_call 4 rfl (by kernel_rfl) (h_free rfl) 45 ?_ ?_ ?_; rotate_left; (focus (go_simp; rfl)))
            refine (HONE.out wd J0.out).mono ?_
            rintro z d1 ⟨rfl, hb⟩
            have J1 := Lib.hid (J0.out.trans (hb.mono J0.out.size))
            clear hb
            refine ⟨_, rfl, J1.out, ?_⟩
            go_simp
            (refine h_read 5 rfl (by kernel_rfl) (by kernel_rfl) (h_free rfl) ?_ ?_ ?_; rotate_left; (focus (intro v hv; go_simp; rfl)); go_simp)
            (refine h_read 6 rfl (by kernel_rfl) (by kernel_rfl) (h_free rfl) ?_ ?_ ?_; rotate_left; (focus (intro v hv; go_simp; rfl)); go_simp)
            (refine h_read 7 rfl (by kernel_rfl) (by kernel_rfl) ?_ ?_ ?_ ?_; (focus (go_simp; done)); rotate_left; (focus (intro v hv; go_simp; rfl)); go_simp)
            (refine h_read 8 rfl (by kernel_rfl) (by kernel_rfl) ?_ ?_ ?_ ?_; (focus (go_simp; done)); rotate_left; (focus (intro v hv; go_simp; rfl)); go_simp)
            (refine h_read 9 rfl (by kernel_rfl) (by kernel_rfl) ?_ ?_ ?_ ?_; (focus (go_simp; done)); rotate_left; (focus (intro v hv; go_simp; rfl)); go_simp)
            (refine h_read 10 rfl (by kernel_rfl) (by kernel_rfl) ?_ ?_ ?_ ?_; (focus (go_simp; done)); rotate_left; (focus (intro v hv; go_simp; rfl)); go_simp)
            (refine h_read 11 rfl (by kernel_rfl) (by kernel_rfl) ?_ ?_ ?_ ?_; (focus (go_simp; done)); rotate_left; (focus (intro v hv; go_simp; rfl)); go_simp)
            (refine h_read 12 rfl (by kernel_rfl) (by kernel_rfl) ?_ ?_ ?_ ?_; (focus (go_simp; done)); rotate_left; (focus (intro v hv; go_simp; rfl)); go_simp)
            (refine h_read 13 rfl (by kernel_rfl) (by kernel_rfl) ?_ ?_ ?_ ?_; (focus (go_simp; done)); rotate_left; (focus (intro v hv; go_simp; rfl)); go_simp)
            (refine h_read 14 rfl (by kernel_rfl) (by kernel_rfl) ?_ ?_ ?_ ?_; (focus (go_simp; done)); rotate_left; (focus (intro v hv; refine run_cells 25 (.tmp 23) ?_ b (off + k * 6) ?_ (snC xs xn xb xt xk xa xm xc) _ (fun j' u hj => by rw [hv.cell (p := ⟨b, off + k * 6 + j', none⟩) (World.block_lt_of_cell? wr _ (XC.out j' u hj))]; exact XC.out j' u hj) Try.underlying25 rfl sn_size; (focus rfl); go_simp)); go_simp)
            (refine h_read 15 rfl (by kernel_rfl) (by kernel_rfl) ?_ ?_ ?_ ?_; (focus (go_simp; done)); rotate_left; (focus (intro v hv; go_simp; rfl)); go_simp)
            (refine h_read 16 rfl (by kernel_rfl) (by kernel_rfl) ?_ ?_ ?_ ?_; (focus (go_simp; done)); rotate_left; (focus (intro v hv; go_simp; rfl)); go_simp)
            (refine h_read 17 rfl (by kernel_rfl) (by kernel_rfl) ?_ ?_ ?_ ?_; (focus (go_simp; done)); rotate_left; (focus (intro v hv; go_simp; rfl)); go_simp)
            (refine h_read 18 rfl (by kernel_rfl) (by kernel_rfl) ?_ ?_ ?_ ?_; (focus (go_simp; done)); rotate_left; (focus (intro v hv; refine run_cells 25 (.tmp 27) ?_ b (off + (k + 1) * 6) ?_ (snC ys yn yb yt yk ya ym yc) _ (fun j' u hj => by rw [hv.cell (p := ⟨b, off + (k + 1) * 6 + j', none⟩) (World.block_lt_of_cell? wr _ (YC.out j' u hj))]; exact YC.out j' u hj) Try.underlying25 rfl sn_size; (focus rfl); go_simp)); go_simp)
            (refine h_call 19 rfl (by kernel_rfl) ?_ 47 ?_ ?_ ?_; (focus (go_simp; done)); rotate_left; (focus (go_simp; rfl)))
            refine (HK.out d1).mono ?_
            rintro z d2 ⟨rfl, hb⟩
            have J2 := Lib.hid (J1.out.trans (hb.mono J1.out.size))
            clear hb
            refine ⟨_, rfl, J2.out, ?_⟩
            go_simp
            (refine h_read 20 rfl (by kernel_rfl) (by kernel_rfl) ?_ ?_ ?_ ?_; (focus (go_simp; done)); rotate_left; (focus (intro v hv; go_simp; rfl)); go_simp)
            (refine h_read 21 rfl (by kernel_rfl) (by kernel_rfl) ?_ ?_ ?_ ?_; (focus (go_simp; done)); rotate_left; (focus (intro v hv; go_simp; rfl)); go_simp)
            (refine h_read 22 rfl (by kernel_rfl) (by kernel_rfl) (h_free rfl) ?_ ?_ ?_; rotate_left; (focus (intro v hv; go_simp; rfl)); go_simp)
            refine h_done (by kernel_rfl) ?_
            go_wp2_with fail
            go_ret
            exact ⟨one (vbool (by rw [HF.out])), B.out.trans (J2.out.mono B.out.size)⟩
          · have HN := Lib.hid hnx
            clear hnx
            go_wp2_with fail
            refine region_h (fun v => Below wr.heap.size wr v) (by kernel_rfl) (by kernel_rfl) (Below.refl _ _).drew ?_
            obtain ⟨wd, hwd⟩ : ∃ wd, wr.drew = wd := ⟨_, rfl⟩
            have J0 : Hid (Below wr.heap.size wr wd) := Lib.hid (by rw [← hwd]; exact (Below.refl _ _).drew)
            rw [hwd]
            clear hwd
            (refine h_read 0 rfl (by kernel_rfl) (by kernel_rfl) (h_free rfl) ?_ ?_ ?_; rotate_left; (focus (intro v hv; go_simp; rfl)); go_simp)
            (refine h_read 1 rfl (by kernel_rfl) (by kernel_rfl) (h_free rfl) ?_ ?_ ?_; rotate_left; (focus (intro v hv; go_simp; rfl)); go_simp)
            (refine h_read 2 rfl (by kernel_rfl) (by kernel_rfl) (h_free rfl) ?_ ?_ ?_; rotate_left; (focus (intro v hv; go_simp; rfl)); go_simp)
            (refine h_read 3 rfl (by kernel_rfl) (by kernel_rfl) (h_free rfl) ?_ ?_ ?_; rotate_left; (focus (intro v hv; refine run_cells 25 (.tmp 12) ?_ b (off + (k + 1) * 6) ?_ (snC ys yn yb yt yk ya ym yc) _ (fun j' u hj => by rw [hv.cell (p := ⟨b, off + (k + 1) * 6 + j', none⟩) (World.block_lt_of_cell? wr _ (YC.out j' u hj))]; exact YC.out j' u hj) Try.underlying25 rfl sn_size; (focus rfl); go_simp)); go_simp)
            (refine h_call 4 rfl (by kernel_rfl) (h_free rfl) 45 ?_ ?_ ?_; rotate_left; (focus (go_simp; rfl)))
            refine (HONE.out wd J0.out).mono ?_
            rintro z d1 ⟨rfl, hb⟩
            have J1 := Lib.hid (J0.out.trans (hb.mono J0.out.size))
            clear hb
            refine ⟨_, rfl, J1.out, ?_⟩
            go_simp
            (refine h_read 5 rfl (by kernel_rfl) (by kernel_rfl) (h_free rfl) ?_ ?_ ?_; rotate_left; (focus (intro v hv; go_simp; rfl)); go_simp)
            (refine h_read 6 rfl (by kernel_rfl) (by kernel_rfl) (h_free rfl) ?_ ?_ ?_; rotate_left; (focus (intro v hv; go_simp; rfl)); go_simp)
            (refine h_read 7 rfl (by kernel_rfl) (by kernel_rfl) ?_ ?_ ?_ ?_; (focus (go_simp; done)); rotate_left; (focus (intro v hv; go_simp; rfl)); go_simp)
            (refine h_read 8 rfl (by kernel_rfl) (by kernel_rfl) ?_ ?_ ?_ ?_; (focus (go_simp; done)); rotate_left; (focus (intro v hv; go_simp; rfl)); go_simp)
            (refine h_read 9 rfl (by kernel_rfl) (by kernel_rfl) ?_ ?_ ?_ ?_; (focus (go_simp; done)); rotate_left; (focus (intro v hv; go_simp; rfl)); go_simp)
            (refine h_read 10 rfl (by kernel_rfl) (by kernel_rfl) ?_ ?_ ?_ ?_; (focus (go_simp; done)); rotate_left; (focus (intro v hv; go_simp; rfl)); go_simp)
            (refine h_read 11 rfl (by kernel_rfl) (by kernel_rfl) ?_ ?_ ?_ ?_; (focus (go_simp; done)); rotate_left; (focus (intro v hv; go_simp; rfl)); go_simp)
            (refine h_read 12 rfl (by kernel_rfl) (by kernel_rfl) ?_ ?_ ?_ ?_; (focus (go_simp; done)); rotate_left; (focus (intro v hv; go_simp; rfl)); go_simp)
            (refine h_read 13 rfl (by kernel_rfl) (by kernel_rfl) ?_ ?_ ?_ ?_; (focus (go_simp; done)); rotate_left; (focus (intro v hv; go_simp; rfl)); go_simp)
            (refine h_read 14 rfl (by kernel_rfl) (by kernel_rfl) ?_ ?_ ?_ ?_; (focus (go_simp; done)); rotate_left; (focus (intro v hv; refine run_cells 25 (.tmp 23) ?_ b (off + k * 6) ?_ (snC xs xn xb xt xk xa xm xc) _ (fun j' u hj => by rw [hv.cell (p := ⟨b, off + k * 6 + j', none⟩) (World.block_lt_of_cell? wr _ (XC.out j' u hj))]; exact XC.out j' u hj) Try.underlying25 rfl sn_size; (focus rfl); go_simp)); go_simp)
            (refine h_read 15 rfl (by kernel_rfl) (by kernel_rfl) ?_ ?_ ?_ ?_; (focus (go_simp; done)); rotate_left; (focus (intro v hv; go_simp; rfl)); go_simp)
            (refine h_read 16 rfl (by kernel_rfl) (by kernel_rfl) ?_ ?_ ?_ ?_; (focus (go_simp; done)); rotate_left; (focus (intro v hv; go_simp; rfl)); go_simp)
            (refine h_read 17 rfl (by kernel_rfl) (by kernel_rfl) ?_ ?_ ?_ ?_; (focus (go_simp; done)); rotate_left; (focus (intro v hv; go_simp; rfl)); go_simp)
            (refine h_read 18 rfl (by kernel_rfl) (by kernel_rfl) ?_ ?_ ?_ ?_; (focus (go_simp; done)); rotate_left; (focus (intro v hv; refine run_cells 25 (.tmp 27) ?_ b (off + (k + 1) * 6) ?_ (snC ys yn yb yt yk ya ym yc) _ (fun j' u hj => by rw [hv.cell (p := ⟨b, off + (k + 1) * 6 + j', none⟩) (World.block_lt_of_cell? wr _ (YC.out j' u hj))]; exact YC.out j' u hj) Try.underlying25 rfl sn_size; (focus rfl); go_simp)); go_simp)
            (refine h_call 19 rfl (by kernel_rfl) ?_ 47 ?_ ?_ ?_; (focus (go_simp; done)); rotate_left; (focus (go_simp; rfl)))
            refine (HK.out d1).mono ?_
            rintro z d2 ⟨rfl, hb⟩
            have J2 := Lib.hid (J1.out.trans (hb.mono J1.out.size))
            clear hb
            refine ⟨_, rfl, J2.out, ?_⟩
            go_simp
            (refine h_read 20 rfl (by kernel_rfl) (by kernel_rfl) ?_ ?_ ?_ ?_; (focus (go_simp; done)); rotate_left; (focus (intro v hv; go_simp; rfl)); go_simp)
            (refine h_read 21 rfl (by kernel_rfl) (by kernel_rfl) ?_ ?_ ?_ ?_; (focus (go_simp; done)); rotate_left; (focus (intro v hv; go_simp; rfl)); go_simp)
            (refine h_read 22 rfl (by kernel_rfl) (by kernel_rfl) (h_free rfl) ?_ ?_ ?_; rotate_left; (focus (intro v hv; go_simp; rfl)); go_simp)
            refine h_done (by kernel_rfl) ?_
            go_wp2_with fail
            go_roundw
            case rel => exact ⟨k + 1 + 1, vint (by omega), by omega, HN, Lib.hid (B.out.trans (J2.out.mono B.out.size))⟩
            case measure => simp [intOf]; omega
    · obtain rfl : n = k := by omega
      have HT := Lib.hid (show V = decide (n ≤ 12) by
        rw [← HV.out]
        have := P.out
        rw [List.take_of_length_le (by rw [HL.out]; exact Nat.le_refl _)] at this
        rw [this, Bool.and_true])
      go_wp2_with fail
      go_ret
      exact ⟨one (vbool (by rw [HT.out]; first | done | rfl | (simp; done) | (rw [Bool.eq_iff_iff]; simp; omega))), B.out⟩
end Go.Proofs.Ytpcpgodnhamdiaa.W

namespace Go.Proofs.Ytpcpgodnhamdiaa.W
open Go Go.ChangeShapes Go.WideShapes Go.ChangeAt Go.RowKit
open Go.Proofs.Ytpcpgodnhamdiaa.P (enc dec)
open Go.Proofs.Ytpcpgodnhamdiaa.S

theorem append_sno {w : World} {ops : Array Oper} {rest : List Oper} {o : Oper} {a : Act} {Q : Exit → Act → World → Prop} (hgd : o.guard = none) (s x : Operand)
    (ho : o.op = .call { callee := .builtin .append, args := #[s, x], argTypes := #[22, 22] })
    (base : Nat) (v : Value) (L : List Sn) (hs : a.eval s = v) (hown : SnO w base v L)
    (sa : Option Addr) (m c : Nat) (Y : List SnX) (hx : a.eval x = .slice sa m c) (hr : Ls snE w sa m c Y) (hy : ∀ y ∈ Y, OwnX w base y) (hmax : L.length + m ≤ 1000000) (hbase : base ≤ w.heap.size)
    (h : ∀ v' w', SnO w' base v' (L ++ Y.map (·.s)) → Below base w w' → w.grownBy w' v.ownBlock → wpList Try.prog ops Q rest (a.put o.dst v') w') : wpList Try.prog ops Q (o :: rest) a w := by
  obtain ⟨X, h1, h2, h3⟩ := hown
  have hXl : X.length = L.length := by rw [← h2, List.length_map]
  refine append_ls snOk hgd s x ho base v X hs h1 sa m c Y hx hr (by omega) hbase (fun v' w' hN hb hg _ => h v' w' ⟨X ++ Y, hN, by rw [List.map_append, h2], fun z hz => ?_⟩ hb hg)
  rcases List.mem_append.1 hz with hz | hz
  · exact (h3 z hz).keepI h1 (Kp.of_grown hg)
  · exact (hy z hz).keepI h1 (Kp.of_grown hg)
/-- all but the one at a place -/
def skM (j : Int) : Nat → List Sn → List Sn
  | _, [] => []
  | i, s :: L => if (i : Int) = j then skM j (i + 1) L else s :: skM j (i + 1) L
theorem skM_app (j : Int) : ∀ (A : List Sn) (i : Nat) (B : List Sn), skM j i (A ++ B) = skM j i A ++ skM j (i + A.length) B
  | [], i, B => by simp [skM]
  | s :: A, i, B => by
    simp only [List.cons_append, skM, List.length_cons]
    rw [skM_app j A (i + 1) B, show i + 1 + A.length = i + (A.length + 1) by omega]
    split <;> rfl
theorem skM_next (j : Int) (L : List Sn) (k : Nat) (s : Sn) (h : L[k]? = some s) : skM j 0 (L.take (k + 1)) = skM j 0 (L.take k) ++ (if (k : Int) = j then [] else [s]) := by
  obtain ⟨h1, h2⟩ := List.getElem?_eq_some_iff.1 h
  rw [List.take_succ_eq_append_getElem h1, h2, skM_app, List.length_take, Nat.min_eq_left (by omega), Nat.zero_add]
  simp only [skM]
theorem skM_no (j : Int) : ∀ (L : List Sn) (i : Nat), (j < i ∨ (i : Int) + L.length ≤ j) → skM j i L = L
  | [], _, _ => rfl
  | s :: L, i, h => by
    simp only [List.length_cons] at h
    simp only [skM]
    rw [if_neg (by omega), skM_no j L (i + 1) (by omega)]
theorem skM_neg (L : List Sn) : skM (-1) 0 L = L := skM_no _ L 0 (.inl (by omega))
theorem skM_at (L : List Sn) (k : Nat) (hk : k < L.length) : skM (k : Int) 0 L = L.take k ++ L.drop (k + 1) := by
  have e : L = L.take k ++ (L[k] :: L.drop (k + 1)) := by rw [← List.drop_eq_getElem_cons hk, List.take_append_drop]
  have hl : (L.take k).length = k := by rw [List.length_take]; omega
  conv => lhs; rw [e]
  rw [skM_app, hl, Nat.zero_add]
  simp only [skM, if_pos]
  rw [skM_no _ (L.take k) 0 (.inr (by omega)), skM_no _ (L.drop (k + 1)) (k + 1) (.inl (by omega))]
theorem skM_len (j : Int) : ∀ (L : List Sn) (i : Nat), (skM j i L).length ≤ L.length
  | [], _ => Nat.le_refl _
  | s :: L, i => by
    have := skM_len j L (i + 1)
    simp only [skM]; split <;> simp <;> omega
set_option maxRecDepth 100000 in
set_option maxHeartbeats 16000000 in
theorem uall (j : Int) (a : Option Addr) (n c : Nat) (L : List Sn) (w : World) (h : SnL w a n c L) (hf : FewP L) (hn : n ≤ 1000) :
    Calls Try.prog 44 #[.slice a n c, .int .i64 j] w fun x w' => ∃ v, x = .returned v ∧ SnO w' w.heap.size v (skM j 0 L) ∧ Below w.heap.size w w' := by
  obtain ⟨X, h, hXL⟩ := h
  have H := Lib.hid h
  have HL := Lib.hid (show L.length = n by rw [← hXL, List.length_map, h.hlen])
  have HXL := Lib.hid hXL
  have HF := Lib.hid hf
  have hm := h.hmax
  have hle := h.hle
  have SZ := Lib.hid sn_size
  clear h hXL hf
  go_enter Try.func44, Try.ntmps44
  go_wp2_with fail
  go_loopw [5, 6] (fun v i wr => ∃ (k : Nat) (v0 : Value), v0 = v ∧ i = .int .i64 (k : Int) ∧ k ≤ n ∧ Hid (SnO wr w.heap.size v0 (skM j 0 (L.take k))) ∧ Hid (Below w.heap.size w wr)) (fun _ i _ => n - (intOf i).toNat)
  case atStart => exact ⟨0, _, rfl, rfl, Nat.zero_le _, Lib.hid ⟨[], LsO.nil _ _, rfl, by simp⟩, Lib.hid (Below.refl _ _)⟩
  case round =>
    obtain ⟨k, v0, rfl, rfl, hk, P, B⟩ := hrel
    by_cases hlt : k < n
    · obtain ⟨b, off, x, rfl, hx, hcell, hfx⟩ := H.out.at snOk B.out k hlt
      have hmx := map_at HXL.out hx
      have hnx := skM_next j L k x.s hmx
      have hsl := skM_len j (L.take k) 0
      have htl : (L.take k).length ≤ k := by rw [List.length_take]; omega
      have HSL := Lib.hid (show (skM j 0 (L.take k)).length ≤ k by omega)
      have hpl : x.s.P.length ≤ 1000 := HF.out x.s (List.mem_of_getElem? hmx)
      have HFX := Lib.hid hfx
      have hxm := hfx.P.hlen
      obtain ⟨U, hU⟩ : ∃ U, skM j 0 (L.take k) = U := ⟨_, rfl⟩
      obtain ⟨U2, hU2⟩ : ∃ U, skM j 0 (L.take (k + 1)) = U := ⟨_, rfl⟩
      rw [hU] at P HSL
      rw [hU, hU2] at hnx
      have HU2 := Lib.hid hU2
      obtain ⟨⟨xs, xn, xb, xt, xk, PL⟩, xa, xm, xc⟩ := x
      dsimp only at hpl hnx hxm
      have XC := Lib.hid hcell
      have HPL := Lib.hid (show xm ≤ 1000 by omega)
      have HXM := Lib.hid hxm
      have g1 : (0 : Int) ≤ (k : Int) := by omega
      have g2 : (k : Int) < (n : Int) := by omega
      clear hcell hx hfx hmx hsl htl hpl hU hU2 hxm
      by_cases hkj : (k : Int) = j
      · rw [if_pos hkj, List.append_nil] at hnx
        have gq : ((k : Int) == j) = true := by simpa using hkj
        have gq2 : ((k : Int) != j) = false := by simpa using hkj
        subst hnx
        go_wp2_with fail
        go_roundw
        case rel => exact ⟨k + 1, _, rfl, vint (by omega), by omega, Lib.hid (by rw [HU2.out]; exact P.out), B⟩
        case measure => simp [intOf]; omega
      · rw [if_neg hkj] at hnx
        have gq : ((k : Int) == j) = false := by simpa using hkj
        have gq2 : ((k : Int) != j) = true := by simpa using hkj
        have HNX := Lib.hid hnx
        clear hnx
        go_wp2_with (first
          | ((with_reducible refine load_cells (o := ⟨some 20, _, _, _, _, _⟩) rfl _ _ rfl b (off + k * 6) ?_ (snC xs xn xb xt xk xa xm xc) _ XC.out Try.underlying25 rfl ?_ ?_); (focus go_simp); (focus (exact SZ.out)))
          | (go_at_call 48; (with_reducible refine (ucopied xs xn xb xt xk xa xm xc PL wr HFX.out.P HPL.out).mono ?_); rintro x w4 ⟨a2, c2, rfl, hown, hb⟩; have O4 := Lib.hid (show OwnX w4 w.heap.size ⟨⟨xs, xn, xb, xt, xk, PL⟩, a2, xm, c2⟩ from ⟨HFX.out.sp, HFX.out.nm, HFX.out.by', HFX.out.ti, HFX.out.ke, HXM.out, HFX.out.P.hfit, hown.base B.out.size⟩); have P4 := Lib.hid (P.out.kept hb); have B4 := Lib.hid (B.out.trans (hb.mono B.out.size)); clear hown hb)
          | ((with_reducible refine build_ls snOk sn_fill (o := ⟨some 22, _, _, _, _, _⟩) rfl _ rfl ⟨⟨xs, xn, xb, xt, xk, PL⟩, a2, xm, c2⟩ ?_ ?_ (by decide) ?_); (focus (first | (go_simp; done) | (go_simp; rfl))); (focus (exact O4.out.fit)); intro w5 hl hb hz; have Q5 := Lib.hid hl; have O5 := Lib.hid (O4.out.kept hb); have P5 := Lib.hid (P4.out.kept hb); have B5 := Lib.hid (B4.out.trans (hb.mono B4.out.size)); clear hl hb hz)
          | (at_builtin; (with_reducible refine append_sno rfl _ _ rfl w.heap.size v0 U ?_ P5.out _ 1 1 [⟨⟨xs, xn, xb, xt, xk, PL⟩, a2, xm, c2⟩] ?_ Q5.out ?_ ?_ B5.out.size ?_); (focus (first | (go_simp; done) | (go_simp; rfl))); (focus (first | (go_simp; done) | (go_simp; rfl))); (focus (intro y hy; rw [List.mem_singleton.1 hy]; exact O5.out)); (focus (have := HSL.out; omega)); intro v6 w6 hN hb hg; have P6 := Lib.hid (show SnO w6 w.heap.size v6 U2 by rw [HNX.out]; exact hN); have B6 := Lib.hid (B5.out.trans hb); clear hN hb hg))
        go_roundw
        case rel => exact ⟨k + 1, _, rfl, vint (by omega), by omega, Lib.hid (by rw [HU2.out]; exact P6.out), B6⟩
        case measure => simp [intOf]; omega
    · obtain rfl : n = k := by omega
      have HT := Lib.hid (show SnO wr w.heap.size v0 (skM j 0 L) by
        have := P.out
        rw [List.take_of_length_le (by rw [HL.out]; exact Nat.le_refl _)] at this
        exact this)
      go_wp2_with fail
      go_ret
      exact ⟨_, rfl, HT.out, B.out⟩
set_option maxRecDepth 100000 in
set_option maxHeartbeats 16000000 in
theorem umremove (sp nm : ByteArray) (now : Int) (a : Option Addr) (n c : Nat) (L : List Sn) (w : World) (h : SnL w a n c L) (hf : FewP L) (hn : n ≤ 1000) :
    Calls Try.prog 12 #[.slice a n c, .string sp, .string nm, .int .i64 now] w fun x w' => ∃ v, x = .returned (.tuple #[v, .int .i64 (removeM L sp nm now).2.1, .int .i64 (removeM L sp nm now).2.2]) ∧ SnO w' w.heap.size v (removeM L sp nm now).1 ∧ Below w.heap.size w w' := by
  have HAT := Lib.hid (uat sp nm a n c L w h)
  have HAL := Lib.hid (fun j w' (hb : Below w.heap.size w w') => uall j a n c L w' (h.mono hb) hf hn)
  have hln : L.length = n := by obtain ⟨X, hX, e⟩ := h; rw [← e, List.length_map, hX.hlen]
  rcases at_has sp nm L with ⟨h1, -, -⟩ | ⟨y, h1, h2, h3, h4⟩
  · have HE := Lib.hid (show removeM L sp nm now = (L, 0, 6) by unfold removeM; rw [if_pos h1])
    rw [show ixM sp nm L = -1 by unfold ixM; rw [h1]; rfl] at HAT
    have HA := Lib.hid (fun w' hb => HAL.out (-1) w' hb)
    simp only [skM_neg] at HA
    clear h hf hn h1 hln HAL
    go_enter Try.func12, Try.ntmps12
    go_wp2_with (first
      | (go_at_call 46; (with_reducible refine HAT.out.mono ?_); rintro x w1 ⟨rfl, hb⟩; have B1 := Lib.hid hb; clear hb)
      | (go_at_call 44; (with_reducible refine (HA.out w1 B1.out).mono ?_); rintro x w2 ⟨v, rfl, hs, hb⟩; have S2 := Lib.hid (hs.base B1.out.size); have B2 := Lib.hid (B1.out.trans (hb.mono B1.out.size)); clear hs hb))
    go_ret3
    rw [HE.out]
    exact ⟨_, rfl, S2.out, B2.out⟩
  · obtain ⟨k, hk⟩ : ∃ k, atM sp nm L = k := ⟨_, rfl⟩
    rw [show ixM sp nm L = (k : Int) by unfold ixM; rw [h1, hk]; rfl] at HAT
    have HR := Lib.hid (show removeM L sp nm now = if now < y.ke then (L, 0, 22) else (L.take k ++ L.drop (k + 1), y.by', 0) by
      unfold removeM keepM bytM
      rw [if_neg (by rw [h1]; decide), List.getD_eq_getElem?_getD, h2, hk]
      rfl)
    rw [hk] at h2
    have hkl : k < L.length := (List.getElem?_eq_some_iff.1 h2).1
    have HSK := Lib.hid (skM_at L k hkl)
    obtain ⟨X, hX, e⟩ := h
    obtain ⟨x, hx, rfl⟩ := map_atr e h2
    have hkn : k < n := by omega
    obtain ⟨b, off, x', rfl, hx', hcell, hfx⟩ := hX.at snOk (Below.refl _ _) k hkn
    obtain rfl : x = x' := by rw [hx] at hx'; exact Option.some.inj hx'
    have m1 := hX.hmax
    have m2 := hX.hle
    obtain ⟨⟨xs, xn, xb, xt, xk, P⟩, xa, xm, xc⟩ := x
    dsimp only at HR
    have C2 := Lib.hid (hcell 2 (.int .i64 xb) rfl)
    have C4 := Lib.hid (hcell 4 (.int .i64 xk) rfl)
    have g1' : (0 : Int) ≤ (k : Int) := by omega
    have g2' : (k : Int) < (n : Int) := by omega
    have g3' : ¬ ((k : Int) < 0) := by omega
    clear hf hn h1 h2 h3 h4 hk e hX hx hx' hcell hfx hln hkl
    by_cases hkp : now < xk
    · have HE := Lib.hid (show removeM L sp nm now = (L, 0, 22) by rw [HR.out, if_pos hkp])
      have HA := Lib.hid (fun w' hb => HAL.out (-1) w' hb)
      simp only [skM_neg] at HA
      clear HR HAL
      go_enter Try.func12, Try.ntmps12
      go_wp2_with (first
        | (go_at_call 46; (with_reducible refine HAT.out.mono ?_); rintro x w1 ⟨rfl, hb⟩; have B1 := Lib.hid hb; have c4 := (B1.out.cell (p := ⟨b, off + k * 6 + 4, none⟩) (World.block_lt_of_cell? w _ C4.out)).trans C4.out; clear hb)
        | (go_at_call 44; (with_reducible refine (HA.out w1 B1.out).mono ?_); rintro x w2 ⟨v, rfl, hs, hb⟩; have S2 := Lib.hid (hs.base B1.out.size); have B2 := Lib.hid (B1.out.trans (hb.mono B1.out.size)); clear hs hb))
      go_ret3
      rw [HE.out]
      exact ⟨_, rfl, S2.out, B2.out⟩
    · have HE := Lib.hid (show removeM L sp nm now = (L.take k ++ L.drop (k + 1), xb, 0) by rw [HR.out, if_neg hkp])
      have HA := Lib.hid (fun w' hb => HAL.out (k : Int) w' hb)
      simp only [HSK.out] at HA
      clear HR HAL
      go_enter Try.func12, Try.ntmps12
      go_wp2_with (first
        | (go_at_call 46; (with_reducible refine HAT.out.mono ?_); rintro x w1 ⟨rfl, hb⟩; have B1 := Lib.hid hb; have c4 := (B1.out.cell (p := ⟨b, off + k * 6 + 4, none⟩) (World.block_lt_of_cell? w _ C4.out)).trans C4.out; have D2 := Lib.hid ((B1.out.cell (p := ⟨b, off + k * 6 + 2, none⟩) (World.block_lt_of_cell? w _ C2.out)).trans C2.out); clear hb))
      refine region_h (fun v => Below w1.heap.size w1 v) (by kernel_rfl) (by kernel_rfl) (Below.refl _ _).drew ?_
      obtain ⟨wd, hwd⟩ : ∃ wd, w1.drew = wd := ⟨_, rfl⟩
      have J0 : Hid (Below w1.heap.size w1 wd) := Lib.hid (by rw [← hwd]; exact (Below.refl _ _).drew)
      rw [hwd]
      clear hwd
      (refine h_read 0 rfl (by kernel_rfl) (by kernel_rfl) (h_free rfl) ?_ ?_ ?_; rotate_left; (focus (intro v hv; go_simp; rfl)); go_simp)
      (refine h_read 1 rfl (by kernel_rfl) (by kernel_rfl) (h_free rfl) ?_ ?_ ?_; rotate_left; (focus (intro v hv; go_simp; rfl)); go_simp)
      (refine h_read 3 rfl (by kernel_rfl) (by kernel_rfl) (h_free rfl) ?_ ?_ ?_; rotate_left; (focus (intro v hv; go_simp; rfl)); go_simp)
      (refine h_read 4 rfl (by kernel_rfl) (by kernel_rfl) (h_free rfl) ?_ ?_ ?_; rotate_left; (focus (intro v hv; go_simp; rfl)); go_simp)
      (refine h_read 5 rfl (by kernel_rfl) (by kernel_rfl) (h_free rfl) ?_ ?_ ?_; rotate_left; (focus (intro v hv; go_simp; rfl)); go_simp)
      (refine h_read 6 rfl (by kernel_rfl) (by kernel_rfl) (h_free rfl) ?_ ?_ ?_; rotate_left; (focus (intro v hv; go_simp; rfl)); go_simp)
      (refine h_read 7 rfl (by kernel_rfl) (by kernel_rfl) (h_free rfl) ?_ ?_ ?_; rotate_left; (focus (intro v hv; have x2 := (hv.cell (p := ⟨b, off + k * 6 + 2, none⟩) (World.block_lt_of_cell? w1 _ D2.out)).trans D2.out; go_simp; rfl)); go_simp)
      (refine h_call 2 rfl (by kernel_rfl) (h_free rfl) 44 ?_ ?_ ?_; rotate_left; (focus (go_simp; rfl)))
      refine (HA.out wd (B1.out.trans (J0.out.mono B1.out.size))).mono ?_
      rintro x w2 ⟨v, rfl, hs, hb⟩
      have J2 := Lib.hid (J0.out.trans (hb.mono J0.out.size))
      have B2 := Lib.hid (B1.out.trans (J2.out.mono B1.out.size))
      have S2 := Lib.hid (hs.base (B1.out.trans (J0.out.mono B1.out.size)).size)
      clear hs hb
      refine ⟨_, rfl, J2.out, ?_⟩
      go_simp
      (refine h_read 8 rfl (by kernel_rfl) (by kernel_rfl) (h_free rfl) ?_ ?_ ?_; rotate_left; (focus (intro v hv; go_simp; rfl)); go_simp)
      (refine h_read 9 rfl (by kernel_rfl) (by kernel_rfl) (h_free rfl) ?_ ?_ ?_; rotate_left; (focus (intro v hv; go_simp; rfl)); go_simp)
      (refine h_read 10 rfl (by kernel_rfl) (by kernel_rfl) (h_free rfl) ?_ ?_ ?_; rotate_left; (focus (intro v hv; go_simp; rfl)); go_simp)
      refine h_done (by kernel_rfl) ?_
      go_wp2_with fail
      go_ret3
      rw [HE.out]
      exact ⟨_, rfl, S2.out, B2.out⟩
end Go.Proofs.Ytpcpgodnhamdiaa.W

namespace Go.Proofs.Ytpcpgodnhamdiaa.W
open Go Go.ChangeShapes Go.WideShapes Go.ChangeAt Go.RowKit
open Go.Proofs.Ytpcpgodnhamdiaa.P (enc dec)
open Go.Proofs.Ytpcpgodnhamdiaa.S

theorem LsO.form6M {α : Type} {E : El α} {w : World} {base : Nat} {v : Value} {L : List α} (h : LsO E w base v L) : (v = .slice none 0 0 ∧ L = []) ∨ ∃ g c, v = .slice (some ⟨g, 0, none⟩) L.length c ∧ base ≤ g := by
  obtain ⟨h1, h2⟩ := h
  rcases h2 with ⟨rfl, h0⟩ | ⟨g, cap, cur, rfl, hg, -⟩
  · exact .inl ⟨rfl, List.eq_nil_of_length_eq_zero (by omega)⟩
  · exact .inr ⟨g, cap, rfl, hg⟩
theorem ahead_eq (s : Sn) (L : List Sn) (k : Nat) (h1 : ∀ i, i < k → ∀ x, L[i]? = some x → belowM s x = false) (h2 : k = L.length ∨ ∃ x, L[k]? = some x ∧ belowM s x = true) : aheadM s L = k := by
  rcases ahead_or s L with ⟨h3, h4⟩ | ⟨y, h3, h4, h5, h6⟩
  · rcases h2 with rfl | ⟨x, hx, hb⟩
    · exact h3
    · rw [h4 k x hx] at hb; cases hb
  · rcases h2 with rfl | ⟨x, hx, hb⟩
    · rw [h1 _ h3 y h4] at h5; cases h5
    · rcases Nat.lt_trichotomy (aheadM s L) k with hlt | he | hgt
      · rw [h1 _ hlt y h4] at h5; cases h5
      · exact he
      · rw [h6 k hgt x hx] at hb; cases hb
set_option maxRecDepth 100000 in
set_option maxHeartbeats 32000000 in
theorem umadd (y : SnX) (a : Option Addr) (n c : Nat) (L : List Sn) (w : World) (h : SnL w a n c L) (hf : FewP L) (hn : n ≤ 1000) (hy : y.fit w) (hyP : y.s.P.length ≤ 1000) :
    Calls Try.prog 10 #[.slice a n c, .agg y.cells.toArray] w fun x w' => ∃ v, x = .returned (.tuple #[v, .int .i64 (addM L y.s).2]) ∧ SnO w' w.heap.size v (addM L y.s).1 ∧ Below w.heap.size w w' := by
  have hln : L.length = n := by obtain ⟨X, hX, e⟩ := h; rw [← e, List.length_map, hX.hlen]
  have HALL := Lib.hid (fun w' (hb : Below w.heap.size w w') => uall (-1) a n c L w' (h.mono hb) hf hn)
  simp only [skM_neg] at HALL
  have HY := Lib.hid (fun w' (hb : Below w.heap.size w w') => (show y.fit w' from snOk.mono y _ _ hy hb))
  have HONE := Lib.hid (fun w' (hb : Below w.heap.size w w') => uone y w' (HY.out w' hb))
  have SZ := Lib.hid sn_size
  obtain ⟨ok, hok⟩ : ∃ z, okM y.s = z := ⟨_, rfl⟩
  rw [hok] at HONE
  obtain ⟨s, hs⟩ : ∃ s, y.s = s := ⟨_, rfl⟩
  have hyl := hy.P.hlen
  rw [hs]
  have hok' : okM s = ok := by rw [← hs]; exact hok
  have HAT := Lib.hid (fun a' c' w' (hl : SnL w' a' n c' L) => uat s.sp s.nm a' n c' L w' hl)
  rw [← hs] at HAT
  obtain ⟨⟨sp, nm, by1, ti, ke, PL⟩, pa, pm, pc⟩ := y
  dsimp only at hs HAT hyl hyP
  have HPM := Lib.hid (show pm ≤ 1000 by omega)
  have HYL := Lib.hid hyl
  cases ok
  · have HE := Lib.hid (show addM L s = (L, 1) by unfold addM; rw [if_pos hok'])
    have HLN := Lib.hid hln
    clear h hf hn hy hyP hyl hok hok' hln hs
    go_enter Try.func10, Try.ntmps10
    go_wp2_with (first
      | ((with_reducible refine box_row (o := ⟨some 3, _, _, _, _, _⟩) rfl _ _ rfl (snC sp nm by1 ti ke pa pm pc) rfl ?_); intro w1 hr hb hz; have R1 := Lib.hid hr; have B1 := Lib.hid hb; clear hr hb hz)
      | (go_at_call 44; (with_reducible refine (HALL.out w1 B1.out).mono ?_); rintro x w2 ⟨v2, rfl, hs, hb⟩; have S2' := Lib.hid (hs.base B1.out.size); obtain ⟨a2, c2, hv2, hsl⟩ := hs.snl; rw [HLN.out] at hv2 hsl; subst hv2; have S2 := S2'; have M2 := Lib.hid hsl; have R2 := Lib.hid (R1.out.below hb R1.out.lt); have B2 := Lib.hid (B1.out.trans (hb.mono B1.out.size)); clear hs hb hsl S2')
      | ((with_reducible refine load_row (o := ⟨some 9, _, _, _, _, _⟩) rfl _ _ rfl w.heap.size ?_ _ (snC sp nm by1 ti ke pa pm pc) _ R2.out Try.underlying25 rfl ?_ ?_); (focus go_simp); (focus (exact SZ.out)))
      | (go_at_call 45; (with_reducible refine (HONE.out w2 B2.out).mono ?_); rintro x w3 ⟨rfl, hb⟩; have S3 := Lib.hid (S2.out.kept hb); have M3 := Lib.hid (M2.out.mono hb); have R3 := Lib.hid (R2.out.below hb R2.out.lt); have B3 := Lib.hid (B2.out.trans (hb.mono B2.out.size)); obtain ⟨c0, c1, c2', c3, c4, c5⟩ := R3.out.h6s; clear hb))
    go_ret2
    rw [HE.out]
    exact ⟨_, rfl, S3.out, B3.out⟩
  cases hhas : hasM s.sp s.nm L with
  | true =>
    have HE := Lib.hid (show addM L s = (L, 15) by unfold addM; rw [if_neg (by rw [hok']; decide), if_pos hhas])
    have hix : ixM s.sp s.nm L = (atM s.sp s.nm L : Int) := by unfold ixM; rw [if_pos hhas]
    rw [← hs] at hix
    simp only [hix] at HAT
    obtain ⟨q, hq⟩ : ∃ q, atM sp nm L = q := ⟨_, rfl⟩
    simp only [hq] at HAT
    have gq : (0 : Int) ≤ (q : Int) := by omega
    have HLN := Lib.hid hln
    clear h hf hn hy hyP hyl hok hok' hln hs hix hq hhas
    go_enter Try.func10, Try.ntmps10
    go_wp2_with (first
      | ((with_reducible refine box_row (o := ⟨some 3, _, _, _, _, _⟩) rfl _ _ rfl (snC sp nm by1 ti ke pa pm pc) rfl ?_); intro w1 hr hb hz; have R1 := Lib.hid hr; have B1 := Lib.hid hb; clear hr hb hz)
      | (go_at_call 44; (with_reducible refine (HALL.out w1 B1.out).mono ?_); rintro x w2 ⟨v2, rfl, hs, hb⟩; have S2' := Lib.hid (hs.base B1.out.size); obtain ⟨a2, c2, hv2, hsl⟩ := hs.snl; rw [HLN.out] at hv2 hsl; subst hv2; have S2 := S2'; have M2 := Lib.hid hsl; have R2 := Lib.hid (R1.out.below hb R1.out.lt); have B2 := Lib.hid (B1.out.trans (hb.mono B1.out.size)); clear hs hb hsl S2')
      | ((with_reducible refine load_row (o := ⟨some 9, _, _, _, _, _⟩) rfl _ _ rfl w.heap.size ?_ _ (snC sp nm by1 ti ke pa pm pc) _ R2.out Try.underlying25 rfl ?_ ?_); (focus go_simp); (focus (exact SZ.out)))
      | (go_at_call 45; (with_reducible refine (HONE.out w2 B2.out).mono ?_); rintro x w3 ⟨rfl, hb⟩; have S3 := Lib.hid (S2.out.kept hb); have M3 := Lib.hid (M2.out.mono hb); have R3 := Lib.hid (R2.out.below hb R2.out.lt); have B3 := Lib.hid (B2.out.trans (hb.mono B2.out.size)); obtain ⟨c0, c1, c2', c3, c4, c5⟩ := R3.out.h6s; clear hb)
      | (go_at_call 46; (with_reducible refine (HAT.out _ _ w3 M3.out).mono ?_); rintro x w4 ⟨rfl, hb⟩; have S4 := Lib.hid (S3.out.kept hb); have R4 := Lib.hid (R3.out.below hb R3.out.lt); have B4 := Lib.hid (B3.out.trans (hb.mono B3.out.size)); clear hb))
    go_ret2
    rw [HE.out]
    exact ⟨_, rfl, S4.out, B4.out⟩
  | false =>
  have hix : ixM s.sp s.nm L = -1 := by unfold ixM; rw [if_neg (by rw [hhas]; decide)]
  rw [← hs] at hix
  simp only [hix] at HAT
  by_cases h12 : 12 ≤ n
  · have HE := Lib.hid (show addM L s = (L, 7) by unfold addM; rw [if_neg (by rw [hok']; decide), if_neg (by rw [hhas]; decide), if_pos (by omega)])
    have g12 : (12 : Int) ≤ (n : Int) := by omega
    have HLN := Lib.hid hln
    clear h hf hn hy hyP hyl hok hok' hln hs hix hhas
    go_enter Try.func10, Try.ntmps10
    go_wp2_with (first
      | ((with_reducible refine box_row (o := ⟨some 3, _, _, _, _, _⟩) rfl _ _ rfl (snC sp nm by1 ti ke pa pm pc) rfl ?_); intro w1 hr hb hz; have R1 := Lib.hid hr; have B1 := Lib.hid hb; clear hr hb hz)
      | (go_at_call 44; (with_reducible refine (HALL.out w1 B1.out).mono ?_); rintro x w2 ⟨v2, rfl, hs, hb⟩; have S2' := Lib.hid (hs.base B1.out.size); obtain ⟨a2, c2, hv2, hsl⟩ := hs.snl; rw [HLN.out] at hv2 hsl; subst hv2; have S2 := S2'; have M2 := Lib.hid hsl; have R2 := Lib.hid (R1.out.below hb R1.out.lt); have B2 := Lib.hid (B1.out.trans (hb.mono B1.out.size)); clear hs hb hsl S2')
      | ((with_reducible refine load_row (o := ⟨some 9, _, _, _, _, _⟩) rfl _ _ rfl w.heap.size ?_ _ (snC sp nm by1 ti ke pa pm pc) _ R2.out Try.underlying25 rfl ?_ ?_); (focus go_simp); (focus (exact SZ.out)))
      | (go_at_call 45; (with_reducible refine (HONE.out w2 B2.out).mono ?_); rintro x w3 ⟨rfl, hb⟩; have S3 := Lib.hid (S2.out.kept hb); have M3 := Lib.hid (M2.out.mono hb); have R3 := Lib.hid (R2.out.below hb R2.out.lt); have B3 := Lib.hid (B2.out.trans (hb.mono B2.out.size)); obtain ⟨c0, c1, c2', c3, c4, c5⟩ := R3.out.h6s; clear hb)
      | (go_at_call 46; (with_reducible refine (HAT.out _ _ w3 M3.out).mono ?_); rintro x w4 ⟨rfl, hb⟩; have S4 := Lib.hid (S3.out.kept hb); have R4 := Lib.hid (R3.out.below hb R3.out.lt); have B4 := Lib.hid (B3.out.trans (hb.mono B3.out.size)); clear hb))
    go_ret2
    rw [HE.out]
    exact ⟨_, rfl, S4.out, B4.out⟩
  have g12 : ¬ (12 : Int) ≤ (n : Int) := by omega
  have HE := Lib.hid (show addM L s = (L.take (aheadM s L) ++ [s] ++ L.drop (aheadM s L), 0) by unfold addM; rw [if_neg (by rw [hok']; decide), if_neg (by rw [hhas]; decide), if_neg (by omega)])
  have HS := Lib.hid hs
  have HLN := Lib.hid hln
  have HN12 := Lib.hid (show n < 12 by omega)
  clear h hf hn hy hyP hyl hok hok' hs hix hhas h12
  go_enter Try.func10, Try.ntmps10
  go_wp2_with (first
    | ((with_reducible refine box_row (o := ⟨some 3, _, _, _, _, _⟩) rfl _ _ rfl (snC sp nm by1 ti ke pa pm pc) rfl ?_); intro w1 hr hb hz; have R1 := Lib.hid hr; have B1 := Lib.hid hb; clear hr hb hz)
    | (go_at_call 44; (with_reducible refine (HALL.out w1 B1.out).mono ?_); rintro x w2 ⟨v2, rfl, hs, hb⟩; have S2' := Lib.hid (hs.base B1.out.size); obtain ⟨a2, c2, hv2, hsl⟩ := hs.snl; rw [HLN.out] at hv2 hsl; subst hv2; have S2 := S2'; have M2 := Lib.hid hsl; have R2 := Lib.hid (R1.out.below hb R1.out.lt); have B2 := Lib.hid (B1.out.trans (hb.mono B1.out.size)); clear hs hb hsl S2')
    | ((with_reducible refine load_row (o := ⟨some 9, _, _, _, _, _⟩) rfl _ _ rfl w.heap.size ?_ _ (snC sp nm by1 ti ke pa pm pc) _ R2.out Try.underlying25 rfl ?_ ?_); (focus go_simp); (focus (exact SZ.out)))
    | (go_at_call 45; (with_reducible refine (HONE.out w2 B2.out).mono ?_); rintro x w3 ⟨rfl, hb⟩; have S3 := Lib.hid (S2.out.kept hb); have M3 := Lib.hid (M2.out.mono hb); have R3 := Lib.hid (R2.out.below hb R2.out.lt); have B3 := Lib.hid (B2.out.trans (hb.mono B2.out.size)); obtain ⟨c0, c1, c2', c3, c4, c5⟩ := R3.out.h6s; clear hb)
    | (go_at_call 46; (with_reducible refine (HAT.out _ _ w3 M3.out).mono ?_); rintro x w4 ⟨rfl, hb⟩; have S4 := Lib.hid (S3.out.kept hb); have R4 := Lib.hid (R3.out.below hb R3.out.lt); have B4 := Lib.hid (B3.out.trans (hb.mono B3.out.size)); clear hb))
  clear R1 R2 R3 c0 c1 c2' c3 c4 c5 S2 M2
  obtain ⟨X, hX, hXL, hXO⟩ := S4.out
  have HXL := Lib.hid hXL
  have HXO := Lib.hid hXO
  have hxn : X.length = n := by rw [← hln, ← hXL, List.length_map]
  rcases hX.form6M with ⟨hv, rfl⟩ | ⟨g, c9, hv, hg⟩
  · injection hv with e1 e2 e3
    subst e1 e2 e3
    clear hX hXL hXO hxn HXO
    have B := Lib.hid (Below.refl w4.heap.size w4)
    go_wp2_with fail
    go_loopw [6] (fun i wz => i = .int .i64 0 ∧ w4 = wz) (fun i _ => 0)
    case atStart => exact ⟨rfl, rfl⟩
    case round =>
      obtain ⟨rfl, rfl⟩ := hrel
      have HAH := Lib.hid (show aheadM s L = 0 by rw [List.eq_nil_of_length_eq_zero HLN.out]; rfl)
      go_wp2_with fail
      refine region_h (fun v => Below w4.heap.size w4 v) (by kernel_rfl) (by kernel_rfl) (Below.refl _ _).drew ?_
      obtain ⟨wq, hwd⟩ : ∃ z, w4.drew = z := ⟨_, rfl⟩
      have J0 : Hid (Below w4.heap.size w4 wq) := Lib.hid (by rw [← hwd]; exact (Below.refl _ _).drew)
      rw [hwd]
      clear hwd
      (refine h_read 0 rfl (by kernel_rfl) (by kernel_rfl) (h_free rfl) ?_ ?_ ?_; rotate_left; (focus (intro v hv; go_simp; rfl)); go_simp)
      (refine h_read 1 rfl (by kernel_rfl) (by kernel_rfl) (h_free rfl) ?_ ?_ ?_; rotate_left; (focus (intro v hv; go_simp; rfl)); go_simp)
      (refine h_read 2 rfl (by kernel_rfl) (by kernel_rfl) (h_free rfl) ?_ ?_ ?_; rotate_left; (focus (intro v hv; go_simp; rfl)); go_simp)
      (refine h_read 3 rfl (by kernel_rfl) (by kernel_rfl) (h_free rfl) ?_ ?_ ?_; rotate_left; (focus (intro v hv; go_simp; rfl)); go_simp)
      (refine h_read 4 rfl (by kernel_rfl) (by kernel_rfl) (h_free rfl) ?_ ?_ ?_; rotate_left; (focus (intro v hv; go_simp; rfl)); go_simp)
      (refine h_skip 5 rfl (by kernel_rfl) (by kernel_rfl) ?_ ?_; (focus (go_simp; first | done | (intro h; cases h) | simp)); go_simp)
      (refine h_skip 6 rfl (by kernel_rfl) (by kernel_rfl) ?_ ?_; (focus (go_simp; first | done | (intro h; cases h) | simp)); go_simp)
      (refine h_skip 7 rfl (by kernel_rfl) (by kernel_rfl) ?_ ?_; (focus (go_simp; first | done | (intro h; cases h) | simp)); go_simp)
      (refine h_skip 8 rfl (by kernel_rfl) (by kernel_rfl) ?_ ?_; (focus (go_simp; first | done | (intro h; cases h) | simp)); go_simp)
      (refine h_skip 9 rfl (by kernel_rfl) (by kernel_rfl) ?_ ?_; (focus (go_simp; first | done | (intro h; cases h) | simp)); go_simp)
      (refine h_skip 10 rfl (by kernel_rfl) (by kernel_rfl) ?_ ?_; (focus (go_simp; first | done | (intro h; cases h) | simp)); go_simp)
      (refine h_skip 11 rfl (by kernel_rfl) (by kernel_rfl) ?_ ?_; (focus (go_simp; first | done | (intro h; cases h) | simp)); go_simp)
      (refine h_read 12 rfl (by kernel_rfl) (by kernel_rfl) (h_free rfl) ?_ ?_ ?_; rotate_left; (focus (intro v hv; go_simp; rfl)); go_simp)
      refine h_done (by kernel_rfl) ?_
      have B := Lib.hid J0.out
      clear J0
      go_wp2_with fail
      have BW := Lib.hid (B4.out.trans (B.out.mono B4.out.size))
      have RW := Lib.hid (R4.out.below B.out R4.out.lt)
      refine region_h (fun v => Below wq.heap.size wq v) (by kernel_rfl) (by kernel_rfl) (Below.refl _ _).drew ?_
      obtain ⟨wd, hwd⟩ : ∃ z, wq.drew = z := ⟨_, rfl⟩
      have J0 : Hid (Below wq.heap.size wq wd) := Lib.hid (by rw [← hwd]; exact (Below.refl _ _).drew)
      rw [hwd]
      clear hwd
      have LK := Lib.hid (Ls.nil (E := snE) wd)
      have LR := Lib.hid (Ls.nil (E := snE) wd)
      (refine h_read 0 rfl (by kernel_rfl) (by kernel_rfl) (h_free rfl) ?_ ?_ ?_; rotate_left; (focus (intro v hv; go_simp; rfl)); go_simp)
      (refine h_read 1 rfl (by kernel_rfl) (by kernel_rfl) (h_free rfl) ?_ ?_ ?_; rotate_left; (focus (intro v hv; go_simp; rfl)); go_simp)
      (refine h_read 2 rfl (by kernel_rfl) (by kernel_rfl) (h_free rfl) (.slice none 0 0) ?_ ?_; (focus (intro v hv; go_simp; try (intro hh; exfalso; omega))); go_simp)
      (refine h_read 4 rfl (by kernel_rfl) (by kernel_rfl) (h_free rfl) ?_ ?_ ?_; rotate_left; (focus (intro v hv; refine run_cells 25 (.tmp 3) ?_ w.heap.size 0 ?_ (snC sp nm by1 ti ke pa pm pc) _ (fun j' u' hj => by rw [hv.cell (p := ⟨w.heap.size, 0 + j', none⟩) RW.out.lt, Nat.zero_add, RW.out.cellV]; exact hj) Try.underlying25 rfl sn_size; (focus rfl); go_simp)); go_simp)
      (refine h_read 8 rfl (by kernel_rfl) (by kernel_rfl) (h_free rfl) ?_ ?_ ?_; rotate_left; (focus (intro v hv; go_simp; rfl)); go_simp)
      (refine h_read 9 rfl (by kernel_rfl) (by kernel_rfl) (h_free rfl) ?_ ?_ ?_; rotate_left; (focus (intro v hv; go_simp; rfl)); go_simp)
      (refine h_read 10 rfl (by kernel_rfl) (by kernel_rfl) (h_free rfl) (.slice none 0 0) ?_ ?_; (focus (intro v hv; go_simp; try (intro hh; exfalso; omega))); go_simp)
      (refine h_list 3 rfl (by kernel_rfl) ?_; intro K hK)
      refine append_ls snOk rfl _ _ rfl wd.heap.size (.slice none 0 0) [] (by go_simp) (LsO.nil _ _) none 0 0 ([] : List SnX) (by go_simp; first | done | rfl) LK.out (by simp) (Nat.le_refl _) ?_
      intro v1 d1 hN hb hg hv
      rw [List.nil_append] at hN
      have N1 := Lib.hid hN
      have D1 := Lib.hid hb
      have J1 := Lib.hid (J0.out.trans (hb.mono J0.out.size))
      have BX1 := Lib.hid (BW.out.trans (J1.out.mono BW.out.size))
      clear hN hb hg hv
      refine hK _ _ J1.out ?_
      go_simp
      (refine h_call 5 rfl (by kernel_rfl) (h_free rfl) 48 ?_ ?_ ?_; rotate_left; (focus (go_simp; rfl)))
      refine (ucopied sp nm by1 ti ke pa pm pc PL d1 (HY.out d1 BX1.out).P HPM.out).mono ?_
      rintro z d2 ⟨a7, c7, rfl, hown, hb⟩
      have HF := HY.out d1 BX1.out
      have O2 := Lib.hid (show OwnX d2 w.heap.size ⟨⟨sp, nm, by1, ti, ke, PL⟩, a7, pm, c7⟩ from ⟨HF.sp, HF.nm, HF.by', HF.ti, HF.ke, HYL.out, HF.P.hfit, hown.base BX1.out.size⟩)
      have N2 := Lib.hid (N1.out.kept hb)
      have D2 := Lib.hid (D1.out.trans (hb.mono D1.out.size))
      have J2 := Lib.hid (J1.out.trans (hb.mono J1.out.size))
      clear hown hb HF
      refine ⟨_, rfl, J2.out, ?_⟩
      go_simp
      (refine h_list 6 rfl (by kernel_rfl) ?_; intro K hK)
      refine build_ls snOk sn_fill rfl _ rfl ⟨⟨sp, nm, by1, ti, ke, PL⟩, a7, pm, c7⟩ (by go_simp; first | done | rfl) O2.out.fit (by decide) ?_
      intro d3 hl hb hz
      have Q3 := Lib.hid hl
      have N3 := Lib.hid (N2.out.kept hb)
      have O3 := Lib.hid (O2.out.kept hb)
      have D3 := Lib.hid (D2.out.trans (hb.mono D2.out.size))
      have J3 := Lib.hid (J2.out.trans (hb.mono J2.out.size))
      clear hl hb hz
      refine hK _ _ J3.out ?_
      go_simp
      (refine h_list 7 rfl (by kernel_rfl) ?_; intro K hK)
      refine append_ls snOk rfl _ _ rfl wd.heap.size v1 ([] : List SnX) (by go_simp) N3.out _ 1 1 [⟨⟨sp, nm, by1, ti, ke, PL⟩, a7, pm, c7⟩] (by go_simp; first | done | rfl) Q3.out (by simp) D3.out.size ?_
      intro v4 d4 hN hb hg hv
      have N4 := Lib.hid hN
      have O4 := Lib.hid (OwnX.keepI O3.out (N3.out.base (show w.heap.size ≤ wd.heap.size from Nat.le_trans BW.out.size J0.out.size)) (Kp.of_grown hg))
      have D4 := Lib.hid (D3.out.trans hb)
      have J4 := Lib.hid (J0.out.trans (D4.out.mono J0.out.size))
      clear hN hb hg hv
      refine hK _ _ J4.out ?_
      go_simp
      (refine h_list 11 rfl (by kernel_rfl) ?_; intro K hK)
      refine append_ls snOk rfl _ _ rfl wd.heap.size v4 (([] : List SnX) ++ [⟨⟨sp, nm, by1, ti, ke, PL⟩, a7, pm, c7⟩]) (by go_simp) N4.out none 0 0 ([] : List SnX) (by go_simp; first | done | rfl) (LR.out.mono snOk D4.out) (by simp) D4.out.size ?_
      intro v5 d5 hN hb hg hv
      have N5 := Lib.hid hN
      have O5 := Lib.hid (OwnX.keepI O4.out (N4.out.base (show w.heap.size ≤ wd.heap.size from Nat.le_trans BW.out.size J0.out.size)) (Kp.of_grown hg))
      have D5 := Lib.hid (D4.out.trans hb)
      have J5 := Lib.hid (J0.out.trans (D5.out.mono J0.out.size))
      clear hN hb hg hv
      refine hK _ _ J5.out ?_
      go_simp
      (refine h_read 12 rfl (by kernel_rfl) (by kernel_rfl) (h_free rfl) ?_ ?_ ?_; rotate_left; (focus (intro v hv; go_simp; rfl)); go_simp)
      (refine h_read 13 rfl (by kernel_rfl) (by kernel_rfl) (h_free rfl) ?_ ?_ ?_; rotate_left; (focus (intro v hv; go_simp; rfl)); go_simp)
      refine h_done (by kernel_rfl) ?_
      have FIN := Lib.hid (show SnO d5 w.heap.size v5 (addM L s).1 from ⟨_, N5.out.base (Nat.le_trans BW.out.size J0.out.size), (by
        rw [HE.out, HAH.out, List.eq_nil_of_length_eq_zero HLN.out]
        dsimp only [List.map]
        rw [← HS.out]
        simp), (by
        intro z hz
        have hz : z = ⟨⟨sp, nm, by1, ti, ke, PL⟩, a7, pm, c7⟩ := by simpa using hz
        rw [hz]; exact O5.out)⟩)
      have HE2 := Lib.hid (show (addM L s).2 = 0 by rw [HE.out])
      have BF := Lib.hid (BW.out.trans (J5.out.mono BW.out.size))
      go_wp2_with fail
      all_goals
        go_ret2
        rw [HE2.out]
        exact ⟨_, rfl, FIN.out, BF.out⟩
  · rw [hxn] at hv
    injection hv with e1 e2 e3
    subst e1 e3
    have LX := Lib.hid (show Ls snE w4 (some ⟨g, 0, none⟩) n c2 X from lso_out snOk hX hxn (fun x hx => (hXO x hx).fit))
    have hm := LX.out.hmax
    have hle := LX.out.hle
    have HXN := Lib.hid hxn
    clear hX hXL hXO hxn hg
    go_wp2_with fail
    go_loopw [6] (fun i wr => ∃ k : Nat, i = .int .i64 (k : Int) ∧ k ≤ n ∧ Hid (∀ i, i < k → ∀ x, L[i]? = some x → belowM s x = false) ∧ Hid (Below w4.heap.size w4 wr)) (fun i _ => n - (intOf i).toNat)
    case atStart => exact ⟨0, rfl, Nat.zero_le _, Lib.hid (fun i hi => absurd hi (by omega)), Lib.hid (Below.refl _ _)⟩
    case round =>
      obtain ⟨k, rfl, hk, P, B⟩ := hrel
      have q0 : (0 : Int) ≤ (k : Int) := by omega
      by_cases hlt : k < n
      · obtain ⟨b, off, x, hab, hx, hcx, -⟩ := LX.out.at snOk B.out k hlt
        obtain ⟨rfl, rfl⟩ : g = b ∧ 0 = off := by injection hab with hab; injection hab with e1 e2; exact ⟨e1, e2⟩
        have hmx := map_at HXL.out hx
        have HK := Lib.hid (fun w' => ubelow ⟨⟨sp, nm, by1, ti, ke, PL⟩, pa, pm, pc⟩ x w')
        dsimp only at HK
        obtain ⟨bl, hbl⟩ : ∃ z, belowM s x.s = z := ⟨_, rfl⟩
        have hbl' : belowM (⟨sp, nm, by1, ti, ke, PL⟩ : Sn) x.s = bl := by rw [HS.out]; exact hbl
        simp only [hbl'] at HK
        clear hbl'
        have HMX := Lib.hid hmx
        have HBL := Lib.hid hbl
        have gl : (k : Int) < (n : Int) := by omega
        obtain ⟨⟨xs, xn, xb, xt, xk, xp⟩, xa, xm, xc⟩ := x
        have XC := Lib.hid hcx
        clear hab hx hcx hmx hbl
        cases bl
        · go_wp2_with fail
          refine region_h (fun v => Below wr.heap.size wr v) (by kernel_rfl) (by kernel_rfl) (Below.refl _ _).drew ?_
          obtain ⟨wq, hwd⟩ : ∃ z, wr.drew = z := ⟨_, rfl⟩
          have J0 : Hid (Below wr.heap.size wr wq) := Lib.hid (by rw [← hwd]; exact (Below.refl _ _).drew)
          rw [hwd]
          clear hwd
          (refine h_read 0 rfl (by kernel_rfl) (by kernel_rfl) (h_free rfl) ?_ ?_ ?_; rotate_left; (focus (intro v hv; go_simp; rfl)); go_simp)
          (refine h_read 1 rfl (by kernel_rfl) (by kernel_rfl) (h_free rfl) ?_ ?_ ?_; rotate_left; (focus (intro v hv; go_simp; rfl)); go_simp)
          (refine h_read 2 rfl (by kernel_rfl) (by kernel_rfl) (h_free rfl) ?_ ?_ ?_; rotate_left; (focus (intro v hv; go_simp; rfl)); go_simp)
          (refine h_read 3 rfl (by kernel_rfl) (by kernel_rfl) (h_free rfl) ?_ ?_ ?_; rotate_left; (focus (intro v hv; go_simp; rfl)); go_simp)
          (refine h_read 4 rfl (by kernel_rfl) (by kernel_rfl) (h_free rfl) ?_ ?_ ?_; rotate_left; (focus (intro v hv; go_simp; rfl)); go_simp)
          (refine h_read 5 rfl (by kernel_rfl) (by kernel_rfl) ?_ ?_ ?_ ?_; (focus (go_simp; done)); rotate_left; (focus (intro v hv; refine run_cells 25 (.tmp 3) ?_ w.heap.size 0 ?_ (snC sp nm by1 ti ke pa pm pc) _ (fun j' u' hj => by rw [hv.cell (p := ⟨w.heap.size, 0 + j', none⟩) (R4.out.below B.out R4.out.lt).lt, Nat.zero_add, (R4.out.below B.out R4.out.lt).cellV]; exact hj) Try.underlying25 rfl sn_size; (focus rfl); go_simp)); go_simp)
          (refine h_read 6 rfl (by kernel_rfl) (by kernel_rfl) ?_ ?_ ?_ ?_; (focus (go_simp; done)); rotate_left; (focus (intro v hv; go_simp; rfl)); go_simp)
          (refine h_read 7 rfl (by kernel_rfl) (by kernel_rfl) ?_ ?_ ?_ ?_; (focus (go_simp; done)); rotate_left; (focus (intro v hv; go_simp; rfl)); go_simp)
          (refine h_read 8 rfl (by kernel_rfl) (by kernel_rfl) ?_ ?_ ?_ ?_; (focus (go_simp; done)); rotate_left; (focus (intro v hv; go_simp; rfl)); go_simp)
          (refine h_read 9 rfl (by kernel_rfl) (by kernel_rfl) ?_ ?_ ?_ ?_; (focus (go_simp; done)); rotate_left; (focus (intro v hv; refine run_cells 25 (.tmp 33) ?_ g (0 + k * 6) ?_ (snC xs xn xb xt xk xa xm xc) _ (fun j' u hj => by rw [hv.cell (p := ⟨g, 0 + k * 6 + j', none⟩) (World.block_lt_of_cell? wr _ (XC.out j' u hj))]; exact XC.out j' u hj) Try.underlying25 rfl sn_size; (focus rfl); go_simp)); go_simp)
          (refine h_call 10 rfl (by kernel_rfl) ?_ 47 ?_ ?_ ?_; (focus (go_simp; done)); rotate_left; (focus (go_simp; rfl)))
          refine (HK.out wq).mono ?_
          rintro z e1 ⟨rfl, hb⟩
          have J1 := Lib.hid (J0.out.trans (hb.mono J0.out.size))
          clear hb
          refine ⟨_, rfl, J1.out, ?_⟩
          go_simp
          (refine h_read 11 rfl (by kernel_rfl) (by kernel_rfl) ?_ ?_ ?_ ?_; (focus (go_simp; done)); rotate_left; (focus (intro v hv; go_simp; rfl)); go_simp)
          (refine h_read 12 rfl (by kernel_rfl) (by kernel_rfl) (h_free rfl) ?_ ?_ ?_; rotate_left; (focus (intro v hv; go_simp; rfl)); go_simp)
          refine h_done (by kernel_rfl) ?_
          go_wp2_with fail
          go_roundw
          case rel => exact ⟨k + 1, vint (by omega), by omega, Lib.hid (fun i hi z hz => by
            by_cases hik : i < k
            · exact P.out i hik z hz
            · obtain rfl : i = k := by omega
              rw [HMX.out] at hz; injection hz with hz; rw [← hz]; exact HBL.out), Lib.hid (B.out.trans (J1.out.mono B.out.size))⟩
          case measure => simp [intOf]; omega
        · have HAH := Lib.hid (ahead_eq s L k P.out (.inr ⟨_, HMX.out, HBL.out⟩))
          go_wp2_with fail
          refine region_h (fun v => Below wr.heap.size wr v) (by kernel_rfl) (by kernel_rfl) (Below.refl _ _).drew ?_
          obtain ⟨wq, hwd⟩ : ∃ z, wr.drew = z := ⟨_, rfl⟩
          have J0 : Hid (Below wr.heap.size wr wq) := Lib.hid (by rw [← hwd]; exact (Below.refl _ _).drew)
          rw [hwd]
          clear hwd
          (refine h_read 0 rfl (by kernel_rfl) (by kernel_rfl) (h_free rfl) ?_ ?_ ?_; rotate_left; (focus (intro v hv; go_simp; rfl)); go_simp)
          (refine h_read 1 rfl (by kernel_rfl) (by kernel_rfl) (h_free rfl) ?_ ?_ ?_; rotate_left; (focus (intro v hv; go_simp; rfl)); go_simp)
          (refine h_read 2 rfl (by kernel_rfl) (by kernel_rfl) (h_free rfl) ?_ ?_ ?_; rotate_left; (focus (intro v hv; go_simp; rfl)); go_simp)
          (refine h_read 3 rfl (by kernel_rfl) (by kernel_rfl) (h_free rfl) ?_ ?_ ?_; rotate_left; (focus (intro v hv; go_simp; rfl)); go_simp)
          (refine h_read 4 rfl (by kernel_rfl) (by kernel_rfl) (h_free rfl) ?_ ?_ ?_; rotate_left; (focus (intro v hv; go_simp; rfl)); go_simp)
          (refine h_read 5 rfl (by kernel_rfl) (by kernel_rfl) ?_ ?_ ?_ ?_; (focus (go_simp; done)); rotate_left; (focus (intro v hv; refine run_cells 25 (.tmp 3) ?_ w.heap.size 0 ?_ (snC sp nm by1 ti ke pa pm pc) _ (fun j' u' hj => by rw [hv.cell (p := ⟨w.heap.size, 0 + j', none⟩) (R4.out.below B.out R4.out.lt).lt, Nat.zero_add, (R4.out.below B.out R4.out.lt).cellV]; exact hj) Try.underlying25 rfl sn_size; (focus rfl); go_simp)); go_simp)
          (refine h_read 6 rfl (by kernel_rfl) (by kernel_rfl) ?_ ?_ ?_ ?_; (focus (go_simp; done)); rotate_left; (focus (intro v hv; go_simp; rfl)); go_simp)
          (refine h_read 7 rfl (by kernel_rfl) (by kernel_rfl) ?_ ?_ ?_ ?_; (focus (go_simp; done)); rotate_left; (focus (intro v hv; go_simp; rfl)); go_simp)
          (refine h_read 8 rfl (by kernel_rfl) (by kernel_rfl) ?_ ?_ ?_ ?_; (focus (go_simp; done)); rotate_left; (focus (intro v hv; go_simp; rfl)); go_simp)
          (refine h_read 9 rfl (by kernel_rfl) (by kernel_rfl) ?_ ?_ ?_ ?_; (focus (go_simp; done)); rotate_left; (focus (intro v hv; refine run_cells 25 (.tmp 33) ?_ g (0 + k * 6) ?_ (snC xs xn xb xt xk xa xm xc) _ (fun j' u hj => by rw [hv.cell (p := ⟨g, 0 + k * 6 + j', none⟩) (World.block_lt_of_cell? wr _ (XC.out j' u hj))]; exact XC.out j' u hj) Try.underlying25 rfl sn_size; (focus rfl); go_simp)); go_simp)
          (refine h_call 10 rfl (by kernel_rfl) ?_ 47 ?_ ?_ ?_; (focus (go_simp; done)); rotate_left; (focus (go_simp; rfl)))
          refine (HK.out wq).mono ?_
          rintro z e1 ⟨rfl, hb⟩
          have J1 := Lib.hid (J0.out.trans (hb.mono J0.out.size))
          clear hb
          refine ⟨_, rfl, J1.out, ?_⟩
          go_simp
          (refine h_read 11 rfl (by kernel_rfl) (by kernel_rfl) ?_ ?_ ?_ ?_; (focus (go_simp; done)); rotate_left; (focus (intro v hv; go_simp; rfl)); go_simp)
          (refine h_read 12 rfl (by kernel_rfl) (by kernel_rfl) (h_free rfl) ?_ ?_ ?_; rotate_left; (focus (intro v hv; go_simp; rfl)); go_simp)
          refine h_done (by kernel_rfl) ?_
          have B := Lib.hid (B.out.trans (J1.out.mono B.out.size))
          clear J0 J1 XC HK
          go_wp2_with fail
          have BW := Lib.hid (B4.out.trans (B.out.mono B4.out.size))
          have RW := Lib.hid (R4.out.below B.out R4.out.lt)
          refine region_h (fun v => Below e1.heap.size e1 v) (by kernel_rfl) (by kernel_rfl) (Below.refl _ _).drew ?_
          obtain ⟨wd, hwd⟩ : ∃ z, e1.drew = z := ⟨_, rfl⟩
          have J0 : Hid (Below e1.heap.size e1 wd) := Lib.hid (by rw [← hwd]; exact (Below.refl _ _).drew)
          rw [hwd]
          clear hwd
          have LD := Lib.hid (LX.out.mono snOk (B.out.trans (J0.out.mono B.out.size)))
          have LK := Lib.hid (show Ls snE wd (some ⟨g, 0, none⟩) k c2 (X.take k) from LD.out.first k (by omega))
          have LR := Lib.hid (show Ls snE wd _ (n - k) (c2 - k) (X.drop k) from LD.out.rest k (by omega))
          have OD := Lib.hid (fun x hx => (HXO.out x hx).kept (B.out.trans (J0.out.mono B.out.size)))
          (refine h_read 0 rfl (by kernel_rfl) (by kernel_rfl) (h_free rfl) ?_ ?_ ?_; rotate_left; (focus (intro v hv; go_simp; rfl)); go_simp)
          (refine h_read 1 rfl (by kernel_rfl) (by kernel_rfl) (h_free rfl) ?_ ?_ ?_; rotate_left; (focus (intro v hv; go_simp; rfl)); go_simp)
          (refine h_read 2 rfl (by kernel_rfl) (by kernel_rfl) (h_free rfl) (.slice (some ⟨g, 0, none⟩) k c2) ?_ ?_; (focus (intro v hv; go_simp; try (intro hh; exfalso; omega))); go_simp)
          (refine h_read 4 rfl (by kernel_rfl) (by kernel_rfl) (h_free rfl) ?_ ?_ ?_; rotate_left; (focus (intro v hv; refine run_cells 25 (.tmp 3) ?_ w.heap.size 0 ?_ (snC sp nm by1 ti ke pa pm pc) _ (fun j' u' hj => by rw [hv.cell (p := ⟨w.heap.size, 0 + j', none⟩) RW.out.lt, Nat.zero_add, RW.out.cellV]; exact hj) Try.underlying25 rfl sn_size; (focus rfl); go_simp)); go_simp)
          (refine h_read 8 rfl (by kernel_rfl) (by kernel_rfl) (h_free rfl) ?_ ?_ ?_; rotate_left; (focus (intro v hv; go_simp; rfl)); go_simp)
          (refine h_read 9 rfl (by kernel_rfl) (by kernel_rfl) (h_free rfl) ?_ ?_ ?_; rotate_left; (focus (intro v hv; go_simp; rfl)); go_simp)
          (refine h_read 10 rfl (by kernel_rfl) (by kernel_rfl) (h_free rfl) (.slice (if c2 = k then some ⟨g, 0, none⟩ else (some (⟨g, 0, none⟩ : Addr)).map (fun x => x.add (k * snE.k))) (n - k) (c2 - k)) ?_ ?_; (focus (intro v hv; go_simp; try (intro hh; exfalso; omega))); go_simp)
          (refine h_list 3 rfl (by kernel_rfl) ?_; intro K hK)
          refine append_ls snOk rfl _ _ rfl wd.heap.size (.slice none 0 0) [] (by go_simp) (LsO.nil _ _) (some ⟨g, 0, none⟩) k c2 (X.take k) (by go_simp; first | done | rfl) LK.out (by have := HN12.out; simp; omega) (Nat.le_refl _) ?_
          intro v1 d1 hN hb hg hv
          rw [List.nil_append] at hN
          have N1 := Lib.hid hN
          have D1 := Lib.hid hb
          have J1 := Lib.hid (J0.out.trans (hb.mono J0.out.size))
          have BX1 := Lib.hid (BW.out.trans (J1.out.mono BW.out.size))
          clear hN hb hg hv
          refine hK _ _ J1.out ?_
          go_simp
          (refine h_call 5 rfl (by kernel_rfl) (h_free rfl) 48 ?_ ?_ ?_; rotate_left; (focus (go_simp; rfl)))
          refine (ucopied sp nm by1 ti ke pa pm pc PL d1 (HY.out d1 BX1.out).P HPM.out).mono ?_
          rintro z d2 ⟨a7, c7, rfl, hown, hb⟩
          have HF := HY.out d1 BX1.out
          have O2 := Lib.hid (show OwnX d2 w.heap.size ⟨⟨sp, nm, by1, ti, ke, PL⟩, a7, pm, c7⟩ from ⟨HF.sp, HF.nm, HF.by', HF.ti, HF.ke, HYL.out, HF.P.hfit, hown.base BX1.out.size⟩)
          have N2 := Lib.hid (N1.out.kept hb)
          have D2 := Lib.hid (D1.out.trans (hb.mono D1.out.size))
          have J2 := Lib.hid (J1.out.trans (hb.mono J1.out.size))
          clear hown hb HF
          refine ⟨_, rfl, J2.out, ?_⟩
          go_simp
          (refine h_list 6 rfl (by kernel_rfl) ?_; intro K hK)
          refine build_ls snOk sn_fill rfl _ rfl ⟨⟨sp, nm, by1, ti, ke, PL⟩, a7, pm, c7⟩ (by go_simp; first | done | rfl) O2.out.fit (by decide) ?_
          intro d3 hl hb hz
          have Q3 := Lib.hid hl
          have N3 := Lib.hid (N2.out.kept hb)
          have O3 := Lib.hid (O2.out.kept hb)
          have D3 := Lib.hid (D2.out.trans (hb.mono D2.out.size))
          have J3 := Lib.hid (J2.out.trans (hb.mono J2.out.size))
          clear hl hb hz
          refine hK _ _ J3.out ?_
          go_simp
          (refine h_list 7 rfl (by kernel_rfl) ?_; intro K hK)
          refine append_ls snOk rfl _ _ rfl wd.heap.size v1 (X.take k) (by go_simp) N3.out _ 1 1 [⟨⟨sp, nm, by1, ti, ke, PL⟩, a7, pm, c7⟩] (by go_simp; first | done | rfl) Q3.out (by have := HN12.out; rw [List.length_take]; omega) D3.out.size ?_
          intro v4 d4 hN hb hg hv
          have N4 := Lib.hid hN
          have O4 := Lib.hid (OwnX.keepI O3.out (N3.out.base (show w.heap.size ≤ wd.heap.size from Nat.le_trans BW.out.size J0.out.size)) (Kp.of_grown hg))
          have D4 := Lib.hid (D3.out.trans hb)
          have J4 := Lib.hid (J0.out.trans (D4.out.mono J0.out.size))
          clear hN hb hg hv
          refine hK _ _ J4.out ?_
          go_simp
          (refine h_list 11 rfl (by kernel_rfl) ?_; intro K hK)
          refine append_ls snOk rfl _ _ rfl wd.heap.size v4 ((X.take k) ++ [⟨⟨sp, nm, by1, ti, ke, PL⟩, a7, pm, c7⟩]) (by go_simp) N4.out _ (n - k) (c2 - k) (X.drop k) (by go_simp; first | done | rfl) (LR.out.mono snOk D4.out) (by have := HN12.out; rw [List.length_append, List.length_take]; simp; omega) D4.out.size ?_
          intro v5 d5 hN hb hg hv
          have N5 := Lib.hid hN
          have O5 := Lib.hid (OwnX.keepI O4.out (N4.out.base (show w.heap.size ≤ wd.heap.size from Nat.le_trans BW.out.size J0.out.size)) (Kp.of_grown hg))
          have D5 := Lib.hid (D4.out.trans hb)
          have J5 := Lib.hid (J0.out.trans (D5.out.mono J0.out.size))
          clear hN hb hg hv
          refine hK _ _ J5.out ?_
          go_simp
          (refine h_read 12 rfl (by kernel_rfl) (by kernel_rfl) (h_free rfl) ?_ ?_ ?_; rotate_left; (focus (intro v hv; go_simp; rfl)); go_simp)
          (refine h_read 13 rfl (by kernel_rfl) (by kernel_rfl) (h_free rfl) ?_ ?_ ?_; rotate_left; (focus (intro v hv; go_simp; rfl)); go_simp)
          refine h_done (by kernel_rfl) ?_
          have FIN := Lib.hid (show SnO d5 w.heap.size v5 (addM L s).1 from ⟨_, N5.out.base (Nat.le_trans BW.out.size J0.out.size), (by
            rw [HE.out, HAH.out, ← HXL.out, List.map_append, List.map_append, List.map_take, List.map_drop]
            congr 2
            rw [← HS.out]
            rfl), (by
            intro z hz
            rcases List.mem_append.1 hz with hz | hz
            · rcases List.mem_append.1 hz with hz | hz
              · exact (OD.out z (List.mem_of_mem_take hz)).kept D5.out
              · rw [List.mem_singleton.1 hz]; exact O5.out
            · exact (OD.out z (List.mem_of_mem_drop hz)).kept D5.out)⟩)
          have HE2 := Lib.hid (show (addM L s).2 = 0 by rw [HE.out])
          have BF := Lib.hid (BW.out.trans (J5.out.mono BW.out.size))
          go_wp2_with fail
          all_goals
            go_ret2
            rw [HE2.out]
            exact ⟨_, rfl, FIN.out, BF.out⟩
      · obtain rfl : n = k := by omega
        have HAH := Lib.hid (ahead_eq s L n P.out (.inl HLN.out.symm))
        have gl : ¬ ((n : Int) < (n : Int)) := by omega
        go_wp2_with fail
        refine region_h (fun v => Below wr.heap.size wr v) (by kernel_rfl) (by kernel_rfl) (Below.refl _ _).drew ?_
        obtain ⟨wq, hwd⟩ : ∃ z, wr.drew = z := ⟨_, rfl⟩
        have J0 : Hid (Below wr.heap.size wr wq) := Lib.hid (by rw [← hwd]; exact (Below.refl _ _).drew)
        rw [hwd]
        clear hwd
        (refine h_read 0 rfl (by kernel_rfl) (by kernel_rfl) (h_free rfl) ?_ ?_ ?_; rotate_left; (focus (intro v hv; go_simp; rfl)); go_simp)
        (refine h_read 1 rfl (by kernel_rfl) (by kernel_rfl) (h_free rfl) ?_ ?_ ?_; rotate_left; (focus (intro v hv; go_simp; rfl)); go_simp)
        (refine h_read 2 rfl (by kernel_rfl) (by kernel_rfl) (h_free rfl) ?_ ?_ ?_; rotate_left; (focus (intro v hv; go_simp; rfl)); go_simp)
        (refine h_read 3 rfl (by kernel_rfl) (by kernel_rfl) (h_free rfl) ?_ ?_ ?_; rotate_left; (focus (intro v hv; go_simp; rfl)); go_simp)
        (refine h_read 4 rfl (by kernel_rfl) (by kernel_rfl) (h_free rfl) ?_ ?_ ?_; rotate_left; (focus (intro v hv; go_simp; rfl)); go_simp)
        (refine h_skip 5 rfl (by kernel_rfl) (by kernel_rfl) ?_ ?_; (focus (go_simp; first | done | (intro h; cases h) | simp)); go_simp)
        (refine h_skip 6 rfl (by kernel_rfl) (by kernel_rfl) ?_ ?_; (focus (go_simp; first | done | (intro h; cases h) | simp)); go_simp)
        (refine h_skip 7 rfl (by kernel_rfl) (by kernel_rfl) ?_ ?_; (focus (go_simp; first | done | (intro h; cases h) | simp)); go_simp)
        (refine h_skip 8 rfl (by kernel_rfl) (by kernel_rfl) ?_ ?_; (focus (go_simp; first | done | (intro h; cases h) | simp)); go_simp)
        (refine h_skip 9 rfl (by kernel_rfl) (by kernel_rfl) ?_ ?_; (focus (go_simp; first | done | (intro h; cases h) | simp)); go_simp)
        (refine h_skip 10 rfl (by kernel_rfl) (by kernel_rfl) ?_ ?_; (focus (go_simp; first | done | (intro h; cases h) | simp)); go_simp)
        (refine h_skip 11 rfl (by kernel_rfl) (by kernel_rfl) ?_ ?_; (focus (go_simp; first | done | (intro h; cases h) | simp)); go_simp)
        (refine h_read 12 rfl (by kernel_rfl) (by kernel_rfl) (h_free rfl) ?_ ?_ ?_; rotate_left; (focus (intro v hv; go_simp; rfl)); go_simp)
        refine h_done (by kernel_rfl) ?_
        have B := Lib.hid (B.out.trans (J0.out.mono B.out.size))
        clear J0
        go_wp2_with fail
        have BW := Lib.hid (B4.out.trans (B.out.mono B4.out.size))
        have RW := Lib.hid (R4.out.below B.out R4.out.lt)
        refine region_h (fun v => Below wq.heap.size wq v) (by kernel_rfl) (by kernel_rfl) (Below.refl _ _).drew ?_
        obtain ⟨wd, hwd⟩ : ∃ z, wq.drew = z := ⟨_, rfl⟩
        have J0 : Hid (Below wq.heap.size wq wd) := Lib.hid (by rw [← hwd]; exact (Below.refl _ _).drew)
        rw [hwd]
        clear hwd
        have LD := Lib.hid (LX.out.mono snOk (B.out.trans (J0.out.mono B.out.size)))
        have LK := Lib.hid (show Ls snE wd (some ⟨g, 0, none⟩) n c2 (X.take n) from LD.out.first n (by omega))
        have LR := Lib.hid (show Ls snE wd _ (n - n) (c2 - n) (X.drop n) from LD.out.rest n (by omega))
        have OD := Lib.hid (fun x hx => (HXO.out x hx).kept (B.out.trans (J0.out.mono B.out.size)))
        (refine h_read 0 rfl (by kernel_rfl) (by kernel_rfl) (h_free rfl) ?_ ?_ ?_; rotate_left; (focus (intro v hv; go_simp; rfl)); go_simp)
        (refine h_read 1 rfl (by kernel_rfl) (by kernel_rfl) (h_free rfl) ?_ ?_ ?_; rotate_left; (focus (intro v hv; go_simp; rfl)); go_simp)
        (refine h_read 2 rfl (by kernel_rfl) (by kernel_rfl) (h_free rfl) (.slice (some ⟨g, 0, none⟩) n c2) ?_ ?_; (focus (intro v hv; go_simp; try (intro hh; exfalso; omega))); go_simp)
        (refine h_read 4 rfl (by kernel_rfl) (by kernel_rfl) (h_free rfl) ?_ ?_ ?_; rotate_left; (focus (intro v hv; refine run_cells 25 (.tmp 3) ?_ w.heap.size 0 ?_ (snC sp nm by1 ti ke pa pm pc) _ (fun j' u' hj => by rw [hv.cell (p := ⟨w.heap.size, 0 + j', none⟩) RW.out.lt, Nat.zero_add, RW.out.cellV]; exact hj) Try.underlying25 rfl sn_size; (focus rfl); go_simp)); go_simp)
        (refine h_read 8 rfl (by kernel_rfl) (by kernel_rfl) (h_free rfl) ?_ ?_ ?_; rotate_left; (focus (intro v hv; go_simp; rfl)); go_simp)
        (refine h_read 9 rfl (by kernel_rfl) (by kernel_rfl) (h_free rfl) ?_ ?_ ?_; rotate_left; (focus (intro v hv; go_simp; rfl)); go_simp)
        (refine h_read 10 rfl (by kernel_rfl) (by kernel_rfl) (h_free rfl) (.slice (if c2 = n then some ⟨g, 0, none⟩ else (some (⟨g, 0, none⟩ : Addr)).map (fun x => x.add (n * snE.k))) (n - n) (c2 - n)) ?_ ?_; (focus (intro v hv; go_simp; try (intro hh; exfalso; omega))); go_simp)
        (refine h_list 3 rfl (by kernel_rfl) ?_; intro K hK)
        refine append_ls snOk rfl _ _ rfl wd.heap.size (.slice none 0 0) [] (by go_simp) (LsO.nil _ _) (some ⟨g, 0, none⟩) n c2 (X.take n) (by go_simp; first | done | rfl) LK.out (by have := HN12.out; simp; omega) (Nat.le_refl _) ?_
        intro v1 d1 hN hb hg hv
        rw [List.nil_append] at hN
        have N1 := Lib.hid hN
        have D1 := Lib.hid hb
        have J1 := Lib.hid (J0.out.trans (hb.mono J0.out.size))
        have BX1 := Lib.hid (BW.out.trans (J1.out.mono BW.out.size))
        clear hN hb hg hv
        refine hK _ _ J1.out ?_
        go_simp
        (refine h_call 5 rfl (by kernel_rfl) (h_free rfl) 48 ?_ ?_ ?_; rotate_left; (focus (go_simp; rfl)))
        refine (ucopied sp nm by1 ti ke pa pm pc PL d1 (HY.out d1 BX1.out).P HPM.out).mono ?_
        rintro z d2 ⟨a7, c7, rfl, hown, hb⟩
        have HF := HY.out d1 BX1.out
        have O2 := Lib.hid (show OwnX d2 w.heap.size ⟨⟨sp, nm, by1, ti, ke, PL⟩, a7, pm, c7⟩ from ⟨HF.sp, HF.nm, HF.by', HF.ti, HF.ke, HYL.out, HF.P.hfit, hown.base BX1.out.size⟩)
        have N2 := Lib.hid (N1.out.kept hb)
        have D2 := Lib.hid (D1.out.trans (hb.mono D1.out.size))
        have J2 := Lib.hid (J1.out.trans (hb.mono J1.out.size))
        clear hown hb HF
        refine ⟨_, rfl, J2.out, ?_⟩
        go_simp
        (refine h_list 6 rfl (by kernel_rfl) ?_; intro K hK)
        refine build_ls snOk sn_fill rfl _ rfl ⟨⟨sp, nm, by1, ti, ke, PL⟩, a7, pm, c7⟩ (by go_simp; first | done | rfl) O2.out.fit (by decide) ?_
        intro d3 hl hb hz
        have Q3 := Lib.hid hl
        have N3 := Lib.hid (N2.out.kept hb)
        have O3 := Lib.hid (O2.out.kept hb)
        have D3 := Lib.hid (D2.out.trans (hb.mono D2.out.size))
        have J3 := Lib.hid (J2.out.trans (hb.mono J2.out.size))
        clear hl hb hz
        refine hK _ _ J3.out ?_
        go_simp
        (refine h_list 7 rfl (by kernel_rfl) ?_; intro K hK)
        refine append_ls snOk rfl _ _ rfl wd.heap.size v1 (X.take n) (by go_simp) N3.out _ 1 1 [⟨⟨sp, nm, by1, ti, ke, PL⟩, a7, pm, c7⟩] (by go_simp; first | done | rfl) Q3.out (by have := HN12.out; rw [List.length_take]; omega) D3.out.size ?_
        intro v4 d4 hN hb hg hv
        have N4 := Lib.hid hN
        have O4 := Lib.hid (OwnX.keepI O3.out (N3.out.base (show w.heap.size ≤ wd.heap.size from Nat.le_trans BW.out.size J0.out.size)) (Kp.of_grown hg))
        have D4 := Lib.hid (D3.out.trans hb)
        have J4 := Lib.hid (J0.out.trans (D4.out.mono J0.out.size))
        clear hN hb hg hv
        refine hK _ _ J4.out ?_
        go_simp
        (refine h_list 11 rfl (by kernel_rfl) ?_; intro K hK)
        refine append_ls snOk rfl _ _ rfl wd.heap.size v4 ((X.take n) ++ [⟨⟨sp, nm, by1, ti, ke, PL⟩, a7, pm, c7⟩]) (by go_simp) N4.out _ (n - n) (c2 - n) (X.drop n) (by go_simp; first | done | rfl) (LR.out.mono snOk D4.out) (by have := HN12.out; rw [List.length_append, List.length_take]; simp; omega) D4.out.size ?_
        intro v5 d5 hN hb hg hv
        have N5 := Lib.hid hN
        have O5 := Lib.hid (OwnX.keepI O4.out (N4.out.base (show w.heap.size ≤ wd.heap.size from Nat.le_trans BW.out.size J0.out.size)) (Kp.of_grown hg))
        have D5 := Lib.hid (D4.out.trans hb)
        have J5 := Lib.hid (J0.out.trans (D5.out.mono J0.out.size))
        clear hN hb hg hv
        refine hK _ _ J5.out ?_
        go_simp
        (refine h_read 12 rfl (by kernel_rfl) (by kernel_rfl) (h_free rfl) ?_ ?_ ?_; rotate_left; (focus (intro v hv; go_simp; rfl)); go_simp)
        (refine h_read 13 rfl (by kernel_rfl) (by kernel_rfl) (h_free rfl) ?_ ?_ ?_; rotate_left; (focus (intro v hv; go_simp; rfl)); go_simp)
        refine h_done (by kernel_rfl) ?_
        have FIN := Lib.hid (show SnO d5 w.heap.size v5 (addM L s).1 from ⟨_, N5.out.base (Nat.le_trans BW.out.size J0.out.size), (by
          rw [HE.out, HAH.out, ← HXL.out, List.map_append, List.map_append, List.map_take, List.map_drop]
          congr 2
          rw [← HS.out]
          rfl), (by
          intro z hz
          rcases List.mem_append.1 hz with hz | hz
          · rcases List.mem_append.1 hz with hz | hz
            · exact (OD.out z (List.mem_of_mem_take hz)).kept D5.out
            · rw [List.mem_singleton.1 hz]; exact O5.out
          · exact (OD.out z (List.mem_of_mem_drop hz)).kept D5.out)⟩)
        have HE2 := Lib.hid (show (addM L s).2 = 0 by rw [HE.out])
        have BF := Lib.hid (BW.out.trans (J5.out.mono BW.out.size))
        go_wp2_with fail
        all_goals
          go_ret2
          rw [HE2.out]
          exact ⟨_, rfl, FIN.out, BF.out⟩
end Go.Proofs.Ytpcpgodnhamdiaa.W
