/- LAYER 20 (manifest): the reference's below, one, Check, all. LAYER 20 (manifest): the reference's all, Remove. LAYER 20 (manifest): the reference's Add. -/
import Derived.Test.YtjolmjbhpokgmaaGreatMfM
import Derived.Test.YtjolmjbhpokgmaaGreatLn
import Derived.Test.YtjolmjbhpokgmaaGreatMfW
set_option linter.unusedSimpArgs false
set_option linter.unusedVariables false
namespace Go.Proofs.YtjolmjbhpokgmaaGreat.W
open Go Go.ChangeShapes Go.WideShapes Go.ChangeAt Go.RowKit
open Go.Proofs.YtjolmjbhpokgmaaGreat.P (enc dec)
open Go.Proofs.YtjolmjbhpokgmaaGreat.S

set_option maxRecDepth 100000 in
set_option maxHeartbeats 4000000 in
theorem rwinM (n lo hi : Int) (v : Bool) (hv : in64 n lo hi = v) (w : World) : Calls Tryz.prog 86 #[.int .i64 n, .int .i64 lo, .int .i64 hi] w fun e w' => e = .returned (.bool v) ∧ w = w' := by
  have HV := Lib.hid hv
  by_cases h : lo ≤ n
  · have HA := Lib.hid (show in64 n lo hi = decide (n ≤ hi) by unfold in64; rw [decide_eq_true h]; rfl)
    clear hv
    go_enter Tryz.func86, Tryz.ntmps86
    go_wp2_with fail
    go_ret
    exact ⟨one (vbool (by rw [← HV.out, HA.out]; first | done | rfl | simp)), rfl⟩
  · have HA := Lib.hid (show in64 n lo hi = false by unfold in64; rw [decide_eq_false h]; rfl)
    clear hv
    go_enter Tryz.func86, Tryz.ntmps86
    go_wp2_with fail
    go_ret
    exact ⟨one (vbool (by rw [← HV.out, HA.out]; first | done | rfl | simp)), rfl⟩
set_option maxRecDepth 100000 in
set_option maxHeartbeats 4000000 in
theorem ubelow (x y : SnX) (w : World) : Calls Tryz.prog 65 #[.agg x.cells.toArray, .agg y.cells.toArray] w fun e w' => e = .returned (.bool (belowM x.s y.s)) ∧ Below w.heap.size w w' := by
  obtain ⟨⟨xs, xn, xb, xt, xk, P⟩, xa, xm, xc⟩ := x
  obtain ⟨⟨ys, yn, yb, yt, yk, Q⟩, ya, ym, yc⟩ := y
  obtain ⟨b0, e0⟩ : ∃ b, Op.bytesLess xs.toList ys.toList = b := ⟨_, rfl⟩
  obtain ⟨b1, e1⟩ : ∃ b, (xs.toList == ys.toList) = b := ⟨_, rfl⟩
  obtain ⟨b2, e2⟩ : ∃ b, Op.bytesLess xn.toList yn.toList = b := ⟨_, rfl⟩
  have HC := Lib.hid (show belowM ⟨xs, xn, xb, xt, xk, P⟩ ⟨ys, yn, yb, yt, yk, Q⟩ = (b0 || (b1 && b2)) by rw [← e0, ← e1, ← e2]; rfl)
  cases b0 <;> cases b1 <;> cases b2
  all_goals
    go_enter Tryz.func65, Tryz.ntmps65
    go_wp2_with (first
      | ((with_reducible refine box_row (o := ⟨some 2, _, _, _, _, _⟩) rfl _ _ rfl (snC xs xn xb xt xk xa xm xc) rfl ?_); intro w1 hr hb hz; have R1 := Lib.hid hr; have B1 := Lib.hid hb; clear hr hb hz)
      | ((with_reducible refine box_row (o := ⟨some 3, _, _, _, _, _⟩) rfl _ _ rfl (snC ys yn yb yt yk ya ym yc) rfl ?_); intro w2 hr hb hz; have R2 := Lib.hid (R1.out.below hb R1.out.lt); obtain ⟨c0, c1, c2, c3, c4, c5⟩ := R2.out.h6s; obtain ⟨d0, d1, d2, d3, d4, d5⟩ := hr.h6s; have B2 := Lib.hid (B1.out.trans (hb.mono B1.out.size)); clear hr hb hz))
    go_ret
    exact ⟨one (vbool (by rw [HC.out]; first | done | rfl | simp)), B2.out⟩
set_option maxRecDepth 100000 in
set_option maxHeartbeats 16000000 in
theorem uone (x : SnX) (w : World) (h : x.fit w) : Calls Tryz.prog 64 #[.agg x.cells.toArray] w fun e w' => e = .returned (.bool (okM x.s)) ∧ Below w.heap.size w w' := by
  obtain ⟨⟨sp, nm, bt, ti, ke, P⟩, pa, pm, pc⟩ := x
  have HN1 := Lib.hid (fun w => uname sp w h.sp)
  have HN2 := Lib.hid (fun w => uname nm w h.nm)
  have HBY := Lib.hid (fun w' (hb : Below w.heap.size w w') => ubytes pa pm pc P w' (h.P.mono pcOk hb))
  obtain ⟨b0, h0⟩ : ∃ b, nameV sp = b := ⟨_, rfl⟩
  obtain ⟨b1, h1⟩ : ∃ b, nameV nm = b := ⟨_, rfl⟩
  obtain ⟨N, e, hN⟩ : ∃ x y, bytesM P = (x, y) := ⟨_, _, rfl⟩
  obtain ⟨b2, h2⟩ : ∃ b, decide (e = 0) = b := ⟨_, rfl⟩
  obtain ⟨b3, h3⟩ : ∃ b, decide (N = bt) = b := ⟨_, rfl⟩
  obtain ⟨b4, h4⟩ : ∃ b, in64 ti 0 1099511627776 = b := ⟨_, rfl⟩
  obtain ⟨b5, h5⟩ : ∃ b, in64 ke 0 1099511627776 = b := ⟨_, rfl⟩
  have HX := Lib.hid (show okM ⟨sp, nm, bt, ti, ke, P⟩ = (b2 && (b3 && (b0 && (b1 && (b4 && b5))))) by unfold okM; dsimp only; rw [hN]; dsimp only; rw [h0, h1, h2, h3, h4, h5])
  have gb2 : (e == 0) = b2 := by rw [← h2, Bool.eq_iff_iff]; simp
  have gb3 : (N == bt) = b3 := by rw [← h3, Bool.eq_iff_iff]; simp
  rw [hN] at HBY
  rw [h0] at HN1
  rw [h1] at HN2
  have HW1 := Lib.hid (fun w => rwinM ti 0 1099511627776 b4 h4 w)
  have HW2 := Lib.hid (fun w => rwinM ke 0 1099511627776 b5 h5 w)
  clear h h0 h1 h2 h3 h4 h5 hN
  rcases (show (b2 = false) ∨ (b2 = true ∧ b3 = false) ∨ (b2 = true ∧ b3 = true ∧ b0 = false) ∨ (b2 = true ∧ b3 = true ∧ b0 = true ∧ b1 = false) ∨ (b2 = true ∧ b3 = true ∧ b0 = true ∧ b1 = true ∧ b4 = false) ∨ (b2 = true ∧ b3 = true ∧ b0 = true ∧ b1 = true ∧ b4 = true) by cases b2 <;> cases b3 <;> cases b0 <;> cases b1 <;> cases b4 <;> simp) with rfl | ⟨rfl, rfl⟩ | ⟨rfl, rfl, rfl⟩ | ⟨rfl, rfl, rfl, rfl⟩ | ⟨rfl, rfl, rfl, rfl, rfl⟩ | ⟨rfl, rfl, rfl, rfl, rfl⟩
  all_goals
    go_enter Tryz.func64, Tryz.ntmps64
    go_wp2_with (first
      | ((with_reducible refine box_row (o := ⟨some 1, _, _, _, _, _⟩) rfl _ _ rfl (snC sp nm bt ti ke pa pm pc) rfl ?_); intro w1 hr1 hb1 hz1; have R1 := Lib.hid hr1; obtain ⟨c0, c1, c2, c3, c4, c5⟩ := hr1.h6s; have B1 := Lib.hid hb1; clear hr1 hb1 hz1)
      | (go_at_call 84; (with_reducible refine (HBY.out w1 B1.out).mono ?_); rintro x w2 ⟨rfl, hb⟩; have RZ := Lib.hid (R1.out.below hb R1.out.lt); have BZ := Lib.hid (B1.out.trans (hb.mono B1.out.size)); clear c0 c1 c2 c3 c4 c5; obtain ⟨c0, c1, c2, c3, c4, c5⟩ := RZ.out.h6s; clear hb)
      | (go_at_call 85; with_reducible refine (HN1.out _).mono ?_; rintro x w' ⟨rfl, rfl⟩)
      | (go_at_call 85; with_reducible refine (HN2.out _).mono ?_; rintro x w' ⟨rfl, rfl⟩)
      | (go_at_call 86; with_reducible refine (HW1.out _).mono ?_; rintro x w' ⟨rfl, rfl⟩)
      | (go_at_call 86; with_reducible refine (HW2.out _).mono ?_; rintro x w' ⟨rfl, rfl⟩))
    go_ret
    exact ⟨one (vbool (by rw [HX.out]; first | done | rfl | simp)), BZ.out⟩
theorem chkM_next (L : List Sn) (k : Nat) (x y : Sn) (hx : L[k]? = some x) (hy : L[k + 1]? = some y) : chkM none (L.take (k + 1 + 1)) = (chkM none (L.take (k + 1)) && (okM y && belowM x y)) := by
  rw [chkM_split, chkM_split, riseM_next L k x y hx hy, allMs_next L (k + 1) y hy]
  cases riseM none (L.take (k + 1)) <;> cases (L.take (k + 1)).all okM <;> cases belowM x y <;> cases okM y <;> rfl
theorem chkM_one (L : List Sn) (x : Sn) (hx : L[0]? = some x) : chkM none (L.take (0 + 1)) = okM x := by
  cases L with
  | nil => simp at hx
  | cons s L => simp at hx; subst hx; simp [chkM, behM]
theorem chkM_take (L : List Sn) (k : Nat) (h : chkM none L = true) : chkM none (L.take k) = true := by
  rw [chkM_split, Bool.and_eq_true] at h ⊢
  exact ⟨riseM_take L none k h.1, allMs_take L k h.2⟩
set_option maxRecDepth 100000 in
set_option maxHeartbeats 16000000 in
theorem umcheck (a : Option Addr) (n c : Nat) (L : List Sn) (w : World) (h : SnL w a n c L) :
    Calls Tryz.prog 37 #[.slice a n c] w fun x w' => x = .returned (.bool (checkM L)) ∧ Below w.heap.size w w' := by
  obtain ⟨X, h, hXL⟩ := h
  have H := Lib.hid h
  have HL := Lib.hid (show L.length = n by rw [← hXL, List.length_map, h.hlen])
  have HXL := Lib.hid hXL
  have hm := h.hmax
  have hle := h.hle
  have SZ := Lib.hid sn_size
  obtain ⟨V, hV⟩ : ∃ V, checkM L = V := ⟨_, rfl⟩
  rw [hV]
  have HV := Lib.hid (show (decide (n ≤ 12) && chkM none L) = V by rw [← hV, ← HL.out]; rfl)
  have HBAD := Lib.hid (fun k (hb : chkM none (L.take k) = false) => (show V = false by
    rw [← HV.out]
    cases hc : chkM none L with
    | false => simp
    | true => rw [chkM_take L k hc] at hb; cases hb))
  clear h hV hXL
  go_enter Tryz.func37, Tryz.ntmps37
  go_wp2_with fail
  go_loopw [3] (fun i wr => ∃ k : Nat, i = .int .i64 (k : Int) ∧ k ≤ n ∧ Hid (chkM none (L.take k) = true) ∧ Hid (Below w.heap.size w wr)) (fun i _ => n - (intOf i).toNat)
  case atStart => exact ⟨0, rfl, Nat.zero_le _, Lib.hid (by simp [chkM]), Lib.hid (Below.refl _ _)⟩
  case round =>
    obtain ⟨k, rfl, hk, P, B⟩ := hrel
    by_cases hlt : k < n
    · obtain ⟨b, off, y, rfl, hy, hcy, hfy⟩ := H.out.at snOk B.out k hlt
      have hmy := map_at HXL.out hy
      have HONE := Lib.hid (fun w' (hb : Below wr.heap.size wr w') => uone y w' (snOk.mono y _ _ hfy hb))
      obtain ⟨ok, hok⟩ : ∃ z, okM y.s = z := ⟨_, rfl⟩
      rw [hok] at HONE
      cases k with
      | zero =>
        have hnx := chkM_one L y.s hmy
        rw [hok] at hnx
        obtain ⟨⟨ys, yn, yb, yt, yk, yp⟩, ya, ym, yc⟩ := y
        have YC := Lib.hid hcy
        have g2 : (0 : Int) < (n : Int) := by omega
        have hz0 : ((0 : Nat) : Int) = 0 := rfl
        rw [hz0]
        clear hcy hy hfy hmy hok
        cases ok
        · have HF := Lib.hid (HBAD.out _ hnx)
          clear hnx
          go_wp2_with fail
          refine region_h (fun v => Below wr.heap.size wr v) (by kernel_rfl) (by kernel_rfl) (Below.refl _ _).drew ?_
          obtain ⟨wd, hwd⟩ : ∃ wd, wr.drew = wd := ⟨_, rfl⟩
          have J0 : Hid (Below wr.heap.size wr wd) := Lib.hid (by rw [← hwd]; exact (Below.refl _ _).drew)
          rw [hwd]
          clear hwd
          (refine h_read 0 rfl (by kernel_rfl) (by kernel_rfl) (h_free rfl) ?_ ?_ ?_; rotate_left; (focus (intro v hv; go_simp; rfl)); go_simp)
          (refine h_read 1 rfl (by kernel_rfl) (by kernel_rfl) (h_free rfl) ?_ ?_ ?_; rotate_left; (focus (intro v hv; go_simp; rfl)); go_simp)
          (refine h_read 2 rfl (by kernel_rfl) (by kernel_rfl) (h_free rfl) ?_ ?_ ?_; rotate_left; (focus (intro v hv; go_simp; rfl)); go_simp)
          (refine h_read 3 rfl (by kernel_rfl) (by kernel_rfl) (h_free rfl) ?_ ?_ ?_; rotate_left; (focus (intro v hv; refine run_cells 45 (.tmp 12) ?_ b (off + 0 * 6) ?_ (snC ys yn yb yt yk ya ym yc) _ (fun j' u hj => by rw [hv.cell (p := ⟨b, off + 0 * 6 + j', none⟩) (World.block_lt_of_cell? wr _ (YC.out j' u hj))]; exact YC.out j' u hj) Tryz.underlying45 rfl sn_size; (focus rfl); go_simp)); go_simp)
          (refine h_call 4 rfl (by kernel_rfl) (h_free rfl) 64 ?_ ?_ ?_; rotate_left; (focus (go_simp; rfl)))
          refine (HONE.out wd J0.out).mono ?_
          rintro z d1 ⟨rfl, hb⟩
          have J1 := Lib.hid (J0.out.trans (hb.mono J0.out.size))
          clear hb
          refine ⟨_, rfl, J1.out, ?_⟩
          go_simp
          (refine h_read 5 rfl (by kernel_rfl) (by kernel_rfl) (h_free rfl) ?_ ?_ ?_; rotate_left; (focus (intro v hv; go_simp; rfl)); go_simp)
          (refine h_read 6 rfl (by kernel_rfl) (by kernel_rfl) (h_free rfl) ?_ ?_ ?_; rotate_left; (focus (intro v hv; go_simp; rfl)); go_simp)
          (refine h_skip 7 rfl (by kernel_rfl) (by kernel_rfl) ?_ ?_; (focus (go_simp; first | done | (intro h; cases h) | simp)); go_simp)
          (refine h_skip 8 rfl (by kernel_rfl) (by kernel_rfl) ?_ ?_; (focus (go_simp; first | done | (intro h; cases h) | simp)); go_simp)
          (refine h_skip 9 rfl (by kernel_rfl) (by kernel_rfl) ?_ ?_; (focus (go_simp; first | done | (intro h; cases h) | simp)); go_simp)
          (refine h_skip 10 rfl (by kernel_rfl) (by kernel_rfl) ?_ ?_; (focus (go_simp; first | done | (intro h; cases h) | simp)); go_simp)
          (refine h_skip 11 rfl (by kernel_rfl) (by kernel_rfl) ?_ ?_; (focus (go_simp; first | done | (intro h; cases h) | simp)); go_simp)
          (refine h_skip 12 rfl (by kernel_rfl) (by kernel_rfl) ?_ ?_; (focus (go_simp; first | done | (intro h; cases h) | simp)); go_simp)
          (refine h_skip 13 rfl (by kernel_rfl) (by kernel_rfl) ?_ ?_; (focus (go_simp; first | done | (intro h; cases h) | simp)); go_simp)
          (refine h_skip 14 rfl (by kernel_rfl) (by kernel_rfl) ?_ ?_; (focus (go_simp; first | done | (intro h; cases h) | simp)); go_simp)
          (refine h_skip 15 rfl (by kernel_rfl) (by kernel_rfl) ?_ ?_; (focus (go_simp; first | done | (intro h; cases h) | simp)); go_simp)
          (refine h_skip 16 rfl (by kernel_rfl) (by kernel_rfl) ?_ ?_; (focus (go_simp; first | done | (intro h; cases h) | simp)); go_simp)
          (refine h_skip 17 rfl (by kernel_rfl) (by kernel_rfl) ?_ ?_; (focus (go_simp; first | done | (intro h; cases h) | simp)); go_simp)
          (refine h_skip 18 rfl (by kernel_rfl) (by kernel_rfl) ?_ ?_; (focus (go_simp; first | done | (intro h; cases h) | simp)); go_simp)
          (refine h_skip 19 rfl (by kernel_rfl) (by kernel_rfl) ?_ ?_; (focus (go_simp; first | done | (intro h; cases h) | simp)); go_simp)
          (refine h_skip 20 rfl (by kernel_rfl) (by kernel_rfl) ?_ ?_; (focus (go_simp; first | done | (intro h; cases h) | simp)); go_simp)
          (refine h_skip 21 rfl (by kernel_rfl) (by kernel_rfl) ?_ ?_; (focus (go_simp; first | done | (intro h; cases h) | simp)); go_simp)
          (refine h_read 22 rfl (by kernel_rfl) (by kernel_rfl) (h_free rfl) ?_ ?_ ?_; rotate_left; (focus (intro v hv; go_simp; rfl)); go_simp)
          refine h_done (by kernel_rfl) ?_
          go_wp2_with fail
          go_ret
          exact ⟨one (vbool (by rw [HF.out])), B.out.trans (J1.out.mono B.out.size)⟩
        · have HN := Lib.hid hnx
          clear hnx
          go_wp2_with fail
          refine region_h (fun v => Below wr.heap.size wr v) (by kernel_rfl) (by kernel_rfl) (Below.refl _ _).drew ?_
          obtain ⟨wd, hwd⟩ : ∃ wd, wr.drew = wd := ⟨_, rfl⟩
          have J0 : Hid (Below wr.heap.size wr wd) := Lib.hid (by rw [← hwd]; exact (Below.refl _ _).drew)
          rw [hwd]
          clear hwd
          (refine h_read 0 rfl (by kernel_rfl) (by kernel_rfl) (h_free rfl) ?_ ?_ ?_; rotate_left; (focus (intro v hv; go_simp; rfl)); go_simp)
          (refine h_read 1 rfl (by kernel_rfl) (by kernel_rfl) (h_free rfl) ?_ ?_ ?_; rotate_left; (focus (intro v hv; go_simp; rfl)); go_simp)
          (refine h_read 2 rfl (by kernel_rfl) (by kernel_rfl) (h_free rfl) ?_ ?_ ?_; rotate_left; (focus (intro v hv; go_simp; rfl)); go_simp)
          (refine h_read 3 rfl (by kernel_rfl) (by kernel_rfl) (h_free rfl) ?_ ?_ ?_; rotate_left; (focus (intro v hv; refine run_cells 45 (.tmp 12) ?_ b (off + 0 * 6) ?_ (snC ys yn yb yt yk ya ym yc) _ (fun j' u hj => by rw [hv.cell (p := ⟨b, off + 0 * 6 + j', none⟩) (World.block_lt_of_cell? wr _ (YC.out j' u hj))]; exact YC.out j' u hj) Tryz.underlying45 rfl sn_size; (focus rfl); go_simp)); go_simp)
          (refine h_call 4 rfl (by kernel_rfl) (h_free rfl) 64 ?_ ?_ ?_; rotate_left; (focus (go_simp; rfl)))
          refine (HONE.out wd J0.out).mono ?_
          rintro z d1 ⟨rfl, hb⟩
          have J1 := Lib.hid (J0.out.trans (hb.mono J0.out.size))
          clear hb
          refine ⟨_, rfl, J1.out, ?_⟩
          go_simp
          (refine h_read 5 rfl (by kernel_rfl) (by kernel_rfl) (h_free rfl) ?_ ?_ ?_; rotate_left; (focus (intro v hv; go_simp; rfl)); go_simp)
          (refine h_read 6 rfl (by kernel_rfl) (by kernel_rfl) (h_free rfl) ?_ ?_ ?_; rotate_left; (focus (intro v hv; go_simp; rfl)); go_simp)
          (refine h_read 7 rfl (by kernel_rfl) (by kernel_rfl) ?_ ?_ ?_ ?_; (focus (go_simp; done)); rotate_left; (focus (intro v hv; go_simp; rfl)); go_simp)
          (refine h_read 8 rfl (by kernel_rfl) (by kernel_rfl) ?_ ?_ ?_ ?_; (focus (go_simp; done)); rotate_left; (focus (intro v hv; go_simp; rfl)); go_simp)
          (refine h_read 9 rfl (by kernel_rfl) (by kernel_rfl) ?_ ?_ ?_ ?_; (focus (go_simp; done)); rotate_left; (focus (intro v hv; go_simp; rfl)); go_simp)
          (refine h_skip 10 rfl (by kernel_rfl) (by kernel_rfl) ?_ ?_; (focus (go_simp; first | done | (intro h; cases h) | simp)); go_simp)
          (refine h_skip 11 rfl (by kernel_rfl) (by kernel_rfl) ?_ ?_; (focus (go_simp; first | done | (intro h; cases h) | simp)); go_simp)
          (refine h_skip 12 rfl (by kernel_rfl) (by kernel_rfl) ?_ ?_; (focus (go_simp; first | done | (intro h; cases h) | simp)); go_simp)
          (refine h_skip 13 rfl (by kernel_rfl) (by kernel_rfl) ?_ ?_; (focus (go_simp; first | done | (intro h; cases h) | simp)); go_simp)
          (refine h_skip 14 rfl (by kernel_rfl) (by kernel_rfl) ?_ ?_; (focus (go_simp; first | done | (intro h; cases h) | simp)); go_simp)
          (refine h_skip 15 rfl (by kernel_rfl) (by kernel_rfl) ?_ ?_; (focus (go_simp; first | done | (intro h; cases h) | simp)); go_simp)
          (refine h_skip 16 rfl (by kernel_rfl) (by kernel_rfl) ?_ ?_; (focus (go_simp; first | done | (intro h; cases h) | simp)); go_simp)
          (refine h_skip 17 rfl (by kernel_rfl) (by kernel_rfl) ?_ ?_; (focus (go_simp; first | done | (intro h; cases h) | simp)); go_simp)
          (refine h_skip 18 rfl (by kernel_rfl) (by kernel_rfl) ?_ ?_; (focus (go_simp; first | done | (intro h; cases h) | simp)); go_simp)
          (refine h_skip 19 rfl (by kernel_rfl) (by kernel_rfl) ?_ ?_; (focus (go_simp; first | done | (intro h; cases h) | simp)); go_simp)
          (refine h_skip 20 rfl (by kernel_rfl) (by kernel_rfl) ?_ ?_; (focus (go_simp; first | done | (intro h; cases h) | simp)); go_simp)
          (refine h_read 21 rfl (by kernel_rfl) (by kernel_rfl) ?_ ?_ ?_ ?_; (focus (go_simp; done)); rotate_left; (focus (intro v hv; go_simp; rfl)); go_simp)
          (refine h_read 22 rfl (by kernel_rfl) (by kernel_rfl) (h_free rfl) ?_ ?_ ?_; rotate_left; (focus (intro v hv; go_simp; rfl)); go_simp)
          refine h_done (by kernel_rfl) ?_
          go_wp2_with fail
          go_roundw
          case rel => exact ⟨1, vint (by omega), by omega, HN, Lib.hid (B.out.trans (J1.out.mono B.out.size))⟩
          case measure => simp [intOf]; omega
      | succ k =>
        obtain ⟨b2, o2, x, hab, hx, hcx, -⟩ := H.out.at snOk B.out k (by omega)
        obtain ⟨rfl, rfl⟩ : b = b2 ∧ off = o2 := by injection hab with hab; injection hab with e1 e2; exact ⟨e1, e2⟩
        have hnx := chkM_next L k x.s y.s (map_at HXL.out hx) hmy
        rw [P.out, Bool.true_and, hok] at hnx
        have HK := Lib.hid (fun w => ubelow x y w)
        obtain ⟨bl, hbl⟩ : ∃ z, belowM x.s y.s = z := ⟨_, rfl⟩
        rw [hbl] at HK hnx
        obtain ⟨⟨xs, xn, xb, xt, xk, xp⟩, xa, xm, xc⟩ := x
        obtain ⟨⟨ys, yn, yb, yt, yk, yp⟩, ya, ym, yc⟩ := y
        have XC := Lib.hid hcx
        have YC := Lib.hid hcy
        have hz0 : ((k + 1 : Nat) : Int) = (k : Int) + 1 := by omega
        rw [hz0]
        have g1 : (0 : Int) ≤ (k : Int) := by omega
        have g2 : (k : Int) < (n : Int) := by omega
        have g3 : (0 : Int) ≤ (k : Int) + 1 := by omega
        have g4 : (k : Int) + 1 < (n : Int) := by omega
        have g5 : (0 : Int) < (k : Int) + 1 := by omega
        have hwr : IntKind.i64.wrap (k : Int) = (k : Int) := by rw [IntKind.wrap_i64]; omega
        have hnt : (((k : Nat) : Int) + 1).toNat = k + 1 := by omega
        clear hcx hcy hx hy hab hfy hmy hok hbl hz0
        cases ok
        · have HF := Lib.hid (HBAD.out _ hnx)
          clear hnx
          go_wp2_with fail
          refine region_h (fun v => Below wr.heap.size wr v) (by kernel_rfl) (by kernel_rfl) (Below.refl _ _).drew ?_
          obtain ⟨wd, hwd⟩ : ∃ wd, wr.drew = wd := ⟨_, rfl⟩
          have J0 : Hid (Below wr.heap.size wr wd) := Lib.hid (by rw [← hwd]; exact (Below.refl _ _).drew)
          rw [hwd]
          clear hwd
          (refine h_read 0 rfl (by kernel_rfl) (by kernel_rfl) (h_free rfl) ?_ ?_ ?_; rotate_left; (focus (intro v hv; go_simp; rfl)); go_simp)
          (refine h_read 1 rfl (by kernel_rfl) (by kernel_rfl) (h_free rfl) ?_ ?_ ?_; rotate_left; (focus (intro v hv; go_simp; rfl)); go_simp)
          (refine h_read 2 rfl (by kernel_rfl) (by kernel_rfl) (h_free rfl) ?_ ?_ ?_; rotate_left; (focus (intro v hv; go_simp; rfl)); go_simp)
          (refine h_read 3 rfl (by kernel_rfl) (by kernel_rfl) (h_free rfl) ?_ ?_ ?_; rotate_left; (focus (intro v hv; refine run_cells 45 (.tmp 12) ?_ b (off + (k + 1) * 6) ?_ (snC ys yn yb yt yk ya ym yc) _ (fun j' u hj => by rw [hv.cell (p := ⟨b, off + (k + 1) * 6 + j', none⟩) (World.block_lt_of_cell? wr _ (YC.out j' u hj))]; exact YC.out j' u hj) Tryz.underlying45 rfl sn_size; (focus rfl); go_simp)); go_simp)
          (refine h_call 4 rfl (by kernel_rfl) (h_free rfl) 64 ?_ ?_ ?_; rotate_left; (focus (go_simp; rfl)))
          refine (HONE.out wd J0.out).mono ?_
          rintro z d1 ⟨rfl, hb⟩
          have J1 := Lib.hid (J0.out.trans (hb.mono J0.out.size))
          clear hb
          refine ⟨_, rfl, J1.out, ?_⟩
          go_simp
          (refine h_read 5 rfl (by kernel_rfl) (by kernel_rfl) (h_free rfl) ?_ ?_ ?_; rotate_left; (focus (intro v hv; go_simp; rfl)); go_simp)
          (refine h_read 6 rfl (by kernel_rfl) (by kernel_rfl) (h_free rfl) ?_ ?_ ?_; rotate_left; (focus (intro v hv; go_simp; rfl)); go_simp)
          (refine h_skip 7 rfl (by kernel_rfl) (by kernel_rfl) ?_ ?_; (focus (go_simp; first | done | (intro h; cases h) | simp)); go_simp)
          (refine h_skip 8 rfl (by kernel_rfl) (by kernel_rfl) ?_ ?_; (focus (go_simp; first | done | (intro h; cases h) | simp)); go_simp)
          (refine h_skip 9 rfl (by kernel_rfl) (by kernel_rfl) ?_ ?_; (focus (go_simp; first | done | (intro h; cases h) | simp)); go_simp)
          (refine h_skip 10 rfl (by kernel_rfl) (by kernel_rfl) ?_ ?_; (focus (go_simp; first | done | (intro h; cases h) | simp)); go_simp)
          (refine h_skip 11 rfl (by kernel_rfl) (by kernel_rfl) ?_ ?_; (focus (go_simp; first | done | (intro h; cases h) | simp)); go_simp)
          (refine h_skip 12 rfl (by kernel_rfl) (by kernel_rfl) ?_ ?_; (focus (go_simp; first | done | (intro h; cases h) | simp)); go_simp)
          (refine h_skip 13 rfl (by kernel_rfl) (by kernel_rfl) ?_ ?_; (focus (go_simp; first | done | (intro h; cases h) | simp)); go_simp)
          (refine h_skip 14 rfl (by kernel_rfl) (by kernel_rfl) ?_ ?_; (focus (go_simp; first | done | (intro h; cases h) | simp)); go_simp)
          (refine h_skip 15 rfl (by kernel_rfl) (by kernel_rfl) ?_ ?_; (focus (go_simp; first | done | (intro h; cases h) | simp)); go_simp)
          (refine h_skip 16 rfl (by kernel_rfl) (by kernel_rfl) ?_ ?_; (focus (go_simp; first | done | (intro h; cases h) | simp)); go_simp)
          (refine h_skip 17 rfl (by kernel_rfl) (by kernel_rfl) ?_ ?_; (focus (go_simp; first | done | (intro h; cases h) | simp)); go_simp)
          (refine h_skip 18 rfl (by kernel_rfl) (by kernel_rfl) ?_ ?_; (focus (go_simp; first | done | (intro h; cases h) | simp)); go_simp)
          (refine h_skip 19 rfl (by kernel_rfl) (by kernel_rfl) ?_ ?_; (focus (go_simp; first | done | (intro h; cases h) | simp)); go_simp)
          (refine h_skip 20 rfl (by kernel_rfl) (by kernel_rfl) ?_ ?_; (focus (go_simp; first | done | (intro h; cases h) | simp)); go_simp)
          (refine h_skip 21 rfl (by kernel_rfl) (by kernel_rfl) ?_ ?_; (focus (go_simp; first | done | (intro h; cases h) | simp)); go_simp)
          (refine h_read 22 rfl (by kernel_rfl) (by kernel_rfl) (h_free rfl) ?_ ?_ ?_; rotate_left; (focus (intro v hv; go_simp; rfl)); go_simp)
          refine h_done (by kernel_rfl) ?_
          go_wp2_with fail
          go_ret
          exact ⟨one (vbool (by rw [HF.out])), B.out.trans (J1.out.mono B.out.size)⟩
        · cases bl
          · have HF := Lib.hid (HBAD.out _ hnx)
            clear hnx
            go_wp2_with fail
            refine region_h (fun v => Below wr.heap.size wr v) (by kernel_rfl) (by kernel_rfl) (Below.refl _ _).drew ?_
            obtain ⟨wd, hwd⟩ : ∃ wd, wr.drew = wd := ⟨_, rfl⟩
            have J0 : Hid (Below wr.heap.size wr wd) := Lib.hid (by rw [← hwd]; exact (Below.refl _ _).drew)
            rw [hwd]
            clear hwd
            (refine h_read 0 rfl (by kernel_rfl) (by kernel_rfl) (h_free rfl) ?_ ?_ ?_; rotate_left; (focus (intro v hv; go_simp; rfl)); go_simp)
            (refine h_read 1 rfl (by kernel_rfl) (by kernel_rfl) (h_free rfl) ?_ ?_ ?_; rotate_left; (focus (intro v hv; go_simp; rfl)); go_simp)
            (refine h_read 2 rfl (by kernel_rfl) (by kernel_rfl) (h_free rfl) ?_ ?_ ?_; rotate_left; (focus (intro v hv; go_simp; rfl)); go_simp)
            (refine h_read 3 rfl (by kernel_rfl) (by kernel_rfl) (h_free rfl) ?_ ?_ ?_; rotate_left; (focus (intro v hv; refine run_cells 45 (.tmp 12) ?_ b (off + (k + 1) * 6) ?_ (snC ys yn yb yt yk ya ym yc) _ (fun j' u hj => by rw [hv.cell (p := ⟨b, off + (k + 1) * 6 + j', none⟩) (World.block_lt_of_cell? wr _ (YC.out j' u hj))]; exact YC.out j' u hj) Tryz.underlying45 rfl sn_size; (focus rfl); go_simp)); go_simp)
            (refine h_call 4 rfl (by kernel_rfl) (h_free rfl) 64 ?_ ?_ ?_; rotate_left; (focus (go_simp; rfl)))
            refine (HONE.out wd J0.out).mono ?_
            rintro z d1 ⟨rfl, hb⟩
            have J1 := Lib.hid (J0.out.trans (hb.mono J0.out.size))
            clear hb
            refine ⟨_, rfl, J1.out, ?_⟩
            go_simp
            (refine h_read 5 rfl (by kernel_rfl) (by kernel_rfl) (h_free rfl) ?_ ?_ ?_; rotate_left; (focus (intro v hv; go_simp; rfl)); go_simp)
            (refine h_read 6 rfl (by kernel_rfl) (by kernel_rfl) (h_free rfl) ?_ ?_ ?_; rotate_left; (focus (intro v hv; go_simp; rfl)); go_simp)
            (refine h_read 7 rfl (by kernel_rfl) (by kernel_rfl) ?_ ?_ ?_ ?_; (focus (go_simp; done)); rotate_left; (focus (intro v hv; go_simp; rfl)); go_simp)
            (refine h_read 8 rfl (by kernel_rfl) (by kernel_rfl) ?_ ?_ ?_ ?_; (focus (go_simp; done)); rotate_left; (focus (intro v hv; go_simp; rfl)); go_simp)
            (refine h_read 9 rfl (by kernel_rfl) (by kernel_rfl) ?_ ?_ ?_ ?_; (focus (go_simp; done)); rotate_left; (focus (intro v hv; go_simp; rfl)); go_simp)
            (refine h_read 10 rfl (by kernel_rfl) (by kernel_rfl) ?_ ?_ ?_ ?_; (focus (go_simp; done)); rotate_left; (focus (intro v hv; go_simp; rfl)); go_simp)
            (refine h_read 11 rfl (by kernel_rfl) (by kernel_rfl) ?_ ?_ ?_ ?_; (focus (go_simp; done)); rotate_left; (focus (intro v hv; go_simp; rfl)); go_simp)
            (refine h_read 12 rfl (by kernel_rfl) (by kernel_rfl) ?_ ?_ ?_ ?_; (focus (go_simp; done)); rotate_left; (focus (intro v hv; go_simp; rfl)); go_simp)
            (refine h_read 13 rfl (by kernel_rfl) (by kernel_rfl) ?_ ?_ ?_ ?_; (focus (go_simp; done)); rotate_left; (focus (intro v hv; go_simp; rfl)); go_simp)
            (refine h_read 14 rfl (by kernel_rfl) (by kernel_rfl) ?_ ?_ ?_ ?_; (focus (go_simp; done)); rotate_left; (focus (intro v hv; refine run_cells 45 (.tmp 23) ?_ b (off + k * 6) ?_ (snC xs xn xb xt xk xa xm xc) _ (fun j' u hj => by rw [hv.cell (p := ⟨b, off + k * 6 + j', none⟩) (World.block_lt_of_cell? wr _ (XC.out j' u hj))]; exact XC.out j' u hj) Tryz.underlying45 rfl sn_size; (focus rfl); go_simp)); go_simp)
            (refine h_read 15 rfl (by kernel_rfl) (by kernel_rfl) ?_ ?_ ?_ ?_; (focus (go_simp; done)); rotate_left; (focus (intro v hv; go_simp; rfl)); go_simp)
            (refine h_read 16 rfl (by kernel_rfl) (by kernel_rfl) ?_ ?_ ?_ ?_; (focus (go_simp; done)); rotate_left; (focus (intro v hv; go_simp; rfl)); go_simp)
            (refine h_read 17 rfl (by kernel_rfl) (by kernel_rfl) ?_ ?_ ?_ ?_; (focus (go_simp; done)); rotate_left; (focus (intro v hv; go_simp; rfl)); go_simp)
            (refine h_read 18 rfl (by kernel_rfl) (by kernel_rfl) ?_ ?_ ?_ ?_; (focus (go_simp; done)); rotate_left; (focus (intro v hv; refine run_cells 45 (.tmp 27) ?_ b (off + (k + 1) * 6) ?_ (snC ys yn yb yt yk ya ym yc) _ (fun j' u hj => by rw [hv.cell (p := ⟨b, off + (k + 1) * 6 + j', none⟩) (World.block_lt_of_cell? wr _ (YC.out j' u hj))]; exact YC.out j' u hj) Tryz.underlying45 rfl sn_size; (focus rfl); go_simp)); go_simp)
            (refine h_call 19 rfl (by kernel_rfl) ?_ 65 ?_ ?_ ?_; (focus (go_simp; done)); rotate_left; (focus (go_simp; rfl)))
            refine (HK.out d1).mono ?_
            rintro z d2 ⟨rfl, hb⟩
            have J2 := Lib.hid (J1.out.trans (hb.mono J1.out.size))
            clear hb
            refine ⟨_, rfl, J2.out, ?_⟩
            go_simp
            (refine h_read 20 rfl (by kernel_rfl) (by kernel_rfl) ?_ ?_ ?_ ?_; (focus (go_simp; done)); rotate_left; (focus (intro v hv; go_simp; rfl)); go_simp)
            (refine h_read 21 rfl (by kernel_rfl) (by kernel_rfl) ?_ ?_ ?_ ?_; (focus (go_simp; done)); rotate_left; (focus (intro v hv; go_simp; rfl)); go_simp)
            (refine h_read 22 rfl (by kernel_rfl) (by kernel_rfl) (h_free rfl) ?_ ?_ ?_; rotate_left; (focus (intro v hv; go_simp; rfl)); go_simp)
            refine h_done (by kernel_rfl) ?_
            go_wp2_with fail
            go_ret
            exact ⟨one (vbool (by rw [HF.out])), B.out.trans (J2.out.mono B.out.size)⟩
          · have HN := Lib.hid hnx
            clear hnx
            go_wp2_with fail
            refine region_h (fun v => Below wr.heap.size wr v) (by kernel_rfl) (by kernel_rfl) (Below.refl _ _).drew ?_
            obtain ⟨wd, hwd⟩ : ∃ wd, wr.drew = wd := ⟨_, rfl⟩
            have J0 : Hid (Below wr.heap.size wr wd) := Lib.hid (by rw [← hwd]; exact (Below.refl _ _).drew)
            rw [hwd]
            clear hwd
            (refine h_read 0 rfl (by kernel_rfl) (by kernel_rfl) (h_free rfl) ?_ ?_ ?_; rotate_left; (focus (intro v hv; go_simp; rfl)); go_simp)
            (refine h_read 1 rfl (by kernel_rfl) (by kernel_rfl) (h_free rfl) ?_ ?_ ?_; rotate_left; (focus (intro v hv; go_simp; rfl)); go_simp)
            (refine h_read 2 rfl (by kernel_rfl) (by kernel_rfl) (h_free rfl) ?_ ?_ ?_; rotate_left; (focus (intro v hv; go_simp; rfl)); go_simp)
            (refine h_read 3 rfl (by kernel_rfl) (by kernel_rfl) (h_free rfl) ?_ ?_ ?_; rotate_left; (focus (intro v hv; refine run_cells 45 (.tmp 12) ?_ b (off + (k + 1) * 6) ?_ (snC ys yn yb yt yk ya ym yc) _ (fun j' u hj => by rw [hv.cell (p := ⟨b, off + (k + 1) * 6 + j', none⟩) (World.block_lt_of_cell? wr _ (YC.out j' u hj))]; exact YC.out j' u hj) Tryz.underlying45 rfl sn_size; (focus rfl); go_simp)); go_simp)
            (refine h_call 4 rfl (by kernel_rfl) (h_free rfl) 64 ?_ ?_ ?_; rotate_left; (focus (go_simp; rfl)))
            refine (HONE.out wd J0.out).mono ?_
            rintro z d1 ⟨rfl, hb⟩
            have J1 := Lib.hid (J0.out.trans (hb.mono J0.out.size))
            clear hb
            refine ⟨_, rfl, J1.out, ?_⟩
            go_simp
            (refine h_read 5 rfl (by kernel_rfl) (by kernel_rfl) (h_free rfl) ?_ ?_ ?_; rotate_left; (focus (intro v hv; go_simp; rfl)); go_simp)
            (refine h_read 6 rfl (by kernel_rfl) (by kernel_rfl) (h_free rfl) ?_ ?_ ?_; rotate_left; (focus (intro v hv; go_simp; rfl)); go_simp)
            (refine h_read 7 rfl (by kernel_rfl) (by kernel_rfl) ?_ ?_ ?_ ?_; (focus (go_simp; done)); rotate_left; (focus (intro v hv; go_simp; rfl)); go_simp)
            (refine h_read 8 rfl (by kernel_rfl) (by kernel_rfl) ?_ ?_ ?_ ?_; (focus (go_simp; done)); rotate_left; (focus (intro v hv; go_simp; rfl)); go_simp)
            (refine h_read 9 rfl (by kernel_rfl) (by kernel_rfl) ?_ ?_ ?_ ?_; (focus (go_simp; done)); rotate_left; (focus (intro v hv; go_simp; rfl)); go_simp)
            (refine h_read 10 rfl (by kernel_rfl) (by kernel_rfl) ?_ ?_ ?_ ?_; (focus (go_simp; done)); rotate_left; (focus (intro v hv; go_simp; rfl)); go_simp)
            (refine h_read 11 rfl (by kernel_rfl) (by kernel_rfl) ?_ ?_ ?_ ?_; (focus (go_simp; done)); rotate_left; (focus (intro v hv; go_simp; rfl)); go_simp)
            (refine h_read 12 rfl (by kernel_rfl) (by kernel_rfl) ?_ ?_ ?_ ?_; (focus (go_simp; done)); rotate_left; (focus (intro v hv; go_simp; rfl)); go_simp)
            (refine h_read 13 rfl (by kernel_rfl) (by kernel_rfl) ?_ ?_ ?_ ?_; (focus (go_simp; done)); rotate_left; (focus (intro v hv; go_simp; rfl)); go_simp)
            (refine h_read 14 rfl (by kernel_rfl) (by kernel_rfl) ?_ ?_ ?_ ?_; (focus (go_simp; done)); rotate_left; (focus (intro v hv; refine run_cells 45 (.tmp 23) ?_ b (off + k * 6) ?_ (snC xs xn xb xt xk xa xm xc) _ (fun j' u hj => by rw [hv.cell (p := ⟨b, off + k * 6 + j', none⟩) (World.block_lt_of_cell? wr _ (XC.out j' u hj))]; exact XC.out j' u hj) Tryz.underlying45 rfl sn_size; (focus rfl); go_simp)); go_simp)
            (refine h_read 15 rfl (by kernel_rfl) (by kernel_rfl) ?_ ?_ ?_ ?_; (focus (go_simp; done)); rotate_left; (focus (intro v hv; go_simp; rfl)); go_simp)
            (refine h_read 16 rfl (by kernel_rfl) (by kernel_rfl) ?_ ?_ ?_ ?_; (focus (go_simp; done)); rotate_left; (focus (intro v hv; go_simp; rfl)); go_simp)
            (refine h_read 17 rfl (by kernel_rfl) (by kernel_rfl) ?_ ?_ ?_ ?_; (focus (go_simp; done)); rotate_left; (focus (intro v hv; go_simp; rfl)); go_simp)
            (refine h_read 18 rfl (by kernel_rfl) (by kernel_rfl) ?_ ?_ ?_ ?_; (focus (go_simp; done)); rotate_left; (focus (intro v hv; refine run_cells 45 (.tmp 27) ?_ b (off + (k + 1) * 6) ?_ (snC ys yn yb yt yk ya ym yc) _ (fun j' u hj => by rw [hv.cell (p := ⟨b, off + (k + 1) * 6 + j', none⟩) (World.block_lt_of_cell? wr _ (YC.out j' u hj))]; exact YC.out j' u hj) Tryz.underlying45 rfl sn_size; (focus rfl); go_simp)); go_simp)
            (refine h_call 19 rfl (by kernel_rfl) ?_ 65 ?_ ?_ ?_; (focus (go_simp; done)); rotate_left; (focus (go_simp; rfl)))
            refine (HK.out d1).mono ?_
            rintro z d2 ⟨rfl, hb⟩
            have J2 := Lib.hid (J1.out.trans (hb.mono J1.out.size))
            clear hb
            refine ⟨_, rfl, J2.out, ?_⟩
            go_simp
            (refine h_read 20 rfl (by kernel_rfl) (by kernel_rfl) ?_ ?_ ?_ ?_; (focus (go_simp; done)); rotate_left; (focus (intro v hv; go_simp; rfl)); go_simp)
            (refine h_read 21 rfl (by kernel_rfl) (by kernel_rfl) ?_ ?_ ?_ ?_; (focus (go_simp; done)); rotate_left; (focus (intro v hv; go_simp; rfl)); go_simp)
            (refine h_read 22 rfl (by kernel_rfl) (by kernel_rfl) (h_free rfl) ?_ ?_ ?_; rotate_left; (focus (intro v hv; go_simp; rfl)); go_simp)
            refine h_done (by kernel_rfl) ?_
            go_wp2_with fail
            go_roundw
            case rel => exact ⟨k + 1 + 1, vint (by omega), by omega, HN, Lib.hid (B.out.trans (J2.out.mono B.out.size))⟩
            case measure => simp [intOf]; omega
    · obtain rfl : n = k := by omega
      have HT := Lib.hid (show V = decide (n ≤ 12) by
        rw [← HV.out]
        have := P.out
        rw [List.take_of_length_le (by rw [HL.out]; exact Nat.le_refl _)] at this
        rw [this, Bool.and_true])
      go_wp2_with fail
      go_ret
      exact ⟨one (vbool (by rw [HT.out]; first | done | rfl | (simp; done) | (rw [Bool.eq_iff_iff]; simp; omega))), B.out⟩
end Go.Proofs.YtjolmjbhpokgmaaGreat.W

namespace Go.Proofs.YtjolmjbhpokgmaaGreat.W
open Go Go.ChangeShapes Go.WideShapes Go.ChangeAt Go.RowKit
open Go.Proofs.YtjolmjbhpokgmaaGreat.P (enc dec)
open Go.Proofs.YtjolmjbhpokgmaaGreat.S

theorem append_sno {w : World} {ops : Array Oper} {rest : List Oper} {o : Oper} {a : Act} {Q : Exit → Act → World → Prop} (hgd : o.guard = none) (s x : Operand)
    (ho : o.op = .call { callee := .builtin .append, args := #[s, x], argTypes := #[22, 22] })
    (base : Nat) (v : Value) (L : List Sn) (hs : a.eval s = v) (hown : SnO w base v L)
    (sa : Option Addr) (m c : Nat) (Y : List SnX) (hx : a.eval x = .slice sa m c) (hr : Ls snE w sa m c Y) (hy : ∀ y ∈ Y, OwnX w base y) (hmax : L.length + m ≤ 1000000) (hbase : base ≤ w.heap.size)
    (h : ∀ v' w', SnO w' base v' (L ++ Y.map (·.s)) → Below base w w' → w.grownBy w' v.ownBlock → wpList Tryz.prog ops Q rest (a.put o.dst v') w') : wpList Tryz.prog ops Q (o :: rest) a w := by
  obtain ⟨X, h1, h2, h3⟩ := hown
  have hXl : X.length = L.length := by rw [← h2, List.length_map]
  refine append_ls snOk hgd s x ho base v X hs h1 sa m c Y hx hr (by omega) hbase (fun v' w' hN hb hg _ => h v' w' ⟨X ++ Y, hN, by rw [List.map_append, h2], fun z hz => ?_⟩ hb hg)
  rcases List.mem_append.1 hz with hz | hz
  · exact (h3 z hz).keepI h1 (Kp.of_grown hg)
  · exact (hy z hz).keepI h1 (Kp.of_grown hg)
/-- all but the one at a place -/
def skM (j : Int) : Nat → List Sn → List Sn
  | _, [] => []
  | i, s :: L => if (i : Int) = j then skM j (i + 1) L else s :: skM j (i + 1) L
theorem skM_app (j : Int) : ∀ (A : List Sn) (i : Nat) (B : List Sn), skM j i (A ++ B) = skM j i A ++ skM j (i + A.length) B
  | [], i, B => by simp [skM]
  | s :: A, i, B => by
    simp only [List.cons_append, skM, List.length_cons]
    rw [skM_app j A (i + 1) B, show i + 1 + A.length = i + (A.length + 1) by omega]
    split <;> rfl
theorem skM_next (j : Int) (L : List Sn) (k : Nat) (s : Sn) (h : L[k]? = some s) : skM j 0 (L.take (k + 1)) = skM j 0 (L.take k) ++ (if (k : Int) = j then [] else [s]) := by
  obtain ⟨h1, h2⟩ := List.getElem?_eq_some_iff.1 h
  rw [List.take_succ_eq_append_getElem h1, h2, skM_app, List.length_take, Nat.min_eq_left (by omega), Nat.zero_add]
  simp only [skM]
theorem skM_no (j : Int) : ∀ (L : List Sn) (i : Nat), (j < i ∨ (i : Int) + L.length ≤ j) → skM j i L = L
  | [], _, _ => rfl
  | s :: L, i, h => by
    simp only [List.length_cons] at h
    simp only [skM]
    rw [if_neg (by omega), skM_no j L (i + 1) (by omega)]
theorem skM_neg (L : List Sn) : skM (-1) 0 L = L := skM_no _ L 0 (.inl (by omega))
theorem skM_at (L : List Sn) (k : Nat) (hk : k < L.length) : skM (k : Int) 0 L = L.take k ++ L.drop (k + 1) := by
  have e : L = L.take k ++ (L[k] :: L.drop (k + 1)) := by rw [← List.drop_eq_getElem_cons hk, List.take_append_drop]
  have hl : (L.take k).length = k := by rw [List.length_take]; omega
  conv => lhs; rw [e]
  rw [skM_app, hl, Nat.zero_add]
  simp only [skM, if_pos]
  rw [skM_no _ (L.take k) 0 (.inr (by omega)), skM_no _ (L.drop (k + 1)) (k + 1) (.inl (by omega))]
theorem skM_len (j : Int) : ∀ (L : List Sn) (i : Nat), (skM j i L).length ≤ L.length
  | [], _ => Nat.le_refl _
  | s :: L, i => by
    have := skM_len j L (i + 1)
    simp only [skM]; split <;> simp <;> omega
end Go.Proofs.YtjolmjbhpokgmaaGreat.W

namespace Go.Proofs.YtjolmjbhpokgmaaGreat.W
open Go Go.ChangeShapes Go.WideShapes Go.ChangeAt Go.RowKit
open Go.Proofs.YtjolmjbhpokgmaaGreat.P (enc dec)
open Go.Proofs.YtjolmjbhpokgmaaGreat.S

theorem LsO.form6M {α : Type} {E : El α} {w : World} {base : Nat} {v : Value} {L : List α} (h : LsO E w base v L) : (v = .slice none 0 0 ∧ L = []) ∨ ∃ g c, v = .slice (some ⟨g, 0, none⟩) L.length c ∧ base ≤ g := by
  obtain ⟨h1, h2⟩ := h
  rcases h2 with ⟨rfl, h0⟩ | ⟨g, cap, cur, rfl, hg, -⟩
  · exact .inl ⟨rfl, List.eq_nil_of_length_eq_zero (by omega)⟩
  · exact .inr ⟨g, cap, rfl, hg⟩
theorem ahead_eq (s : Sn) (L : List Sn) (k : Nat) (h1 : ∀ i, i < k → ∀ x, L[i]? = some x → belowM s x = false) (h2 : k = L.length ∨ ∃ x, L[k]? = some x ∧ belowM s x = true) : aheadM s L = k := by
  rcases ahead_or s L with ⟨h3, h4⟩ | ⟨y, h3, h4, h5, h6⟩
  · rcases h2 with rfl | ⟨x, hx, hb⟩
    · exact h3
    · rw [h4 k x hx] at hb; cases hb
  · rcases h2 with rfl | ⟨x, hx, hb⟩
    · rw [h1 _ h3 y h4] at h5; cases h5
    · rcases Nat.lt_trichotomy (aheadM s L) k with hlt | he | hgt
      · rw [h1 _ hlt y h4] at h5; cases h5
      · exact he
      · rw [h6 k hgt x hx] at hb; cases hb
end Go.Proofs.YtjolmjbhpokgmaaGreat.W
