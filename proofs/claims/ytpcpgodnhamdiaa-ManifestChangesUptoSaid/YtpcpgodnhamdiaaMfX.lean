/- LAYER 20 (manifest): the program's Same of lists that are the same. -/
import Derived.Test.YtpcpgodnhamdiaaMfG
import Derived.Test.YtpcpgodnhamdiaaRun
set_option linter.unusedSimpArgs false
set_option linter.unusedVariables false
namespace Go.Proofs.Ytpcpgodnhamdiaa.W
open Go Go.ChangeShapes Go.WideShapes Go.ChangeAt Go.RowKit
open Go.Proofs.Ytpcpgodnhamdiaa.P (enc dec)
open Go.Proofs.Ytpcpgodnhamdiaa.S

set_option maxRecDepth 100000 in
set_option maxHeartbeats 16000000 in
theorem pceq (a a' : Option Addr) (n c n' c' : Nat) (P : List Pc) (w : World) (h1 : Ls pcE w a n c P) (h2 : Ls pcE w a' n' c' P) :
    Calls Try.prog 104 #[.slice a n c, .slice a' n' c'] w fun x w' => x = .returned (.bool true) ∧ Below w.heap.size w w' := by
  obtain rfl : n = n' := by rw [← h1.hlen, ← h2.hlen]
  have H1 := Lib.hid h1
  have H2 := Lib.hid h2
  have hm := h1.hmax
  have hle := h1.hle
  clear h1 h2
  go_enter Try.func104, Try.ntmps104
  go_wp2_with fail
  go_loopw [13] (fun i wr => ∃ k : Nat, i = .int .i64 (k : Int) ∧ k ≤ n ∧ Hid (Below w.heap.size w wr)) (fun i _ => n - (intOf i).toNat)
  case atStart => exact ⟨0, rfl, Nat.zero_le _, Lib.hid (Below.refl _ _)⟩
  case round =>
    obtain ⟨k, rfl, hk, B⟩ := hrel
    by_cases hlt : k < n
    · obtain ⟨b, o, x, rfl, hx1, hc1, -⟩ := H1.out.at pcOk B.out k hlt
      obtain ⟨b', o', y, rfl, hx2, hc2, -⟩ := H2.out.at pcOk B.out k hlt
      obtain rfl : x = y := by rw [hx1] at hx2; exact Option.some.inj hx2
      obtain ⟨xs, xz⟩ := x
      have g1 : (0 : Int) ≤ (k : Int) := by omega
      have g2 : (k : Int) < (n : Int) := by omega
      have X1 := Lib.hid hc1
      have X2 := Lib.hid hc2
      clear hc1 hc2 hx1 hx2
      go_wp2_with fail
      refine region_h (fun v => Below wr.heap.size wr v) (by kernel_rfl) (by kernel_rfl) (Below.refl _ _).drew ?_
      obtain ⟨wd, hwd⟩ : ∃ wd, wr.drew = wd := ⟨_, rfl⟩
      have D0 : Hid (Below wr.heap.size wr wd) := Lib.hid (by rw [← hwd]; exact (Below.refl _ _).drew)
      rw [hwd]
      clear hwd
      (refine h_read 0 rfl (by kernel_rfl) (by kernel_rfl) (h_free rfl) ?_ ?_ ?_; rotate_left; (focus (intro v hv; go_simp; rfl)); go_simp)
      (refine h_read 1 rfl (by kernel_rfl) (by kernel_rfl) (h_free rfl) ?_ ?_ ?_; rotate_left; (focus (intro v hv; go_simp; rfl)); go_simp)
      (refine h_read 2 rfl (by kernel_rfl) (by kernel_rfl) (h_free rfl) ?_ ?_ ?_; rotate_left; (focus (intro v hv; go_simp; rfl)); go_simp)
      (refine h_read 3 rfl (by kernel_rfl) (by kernel_rfl) (h_free rfl) ?_ ?_ ?_; rotate_left; (focus (intro v hv; refine run_cells 37 (.tmp 18) ?_ b (o + k * 2) ?_ [.string xs, .int .i64 xz] _ (fun j' u hj => by rw [hv.cell (p := ⟨b, o + k * 2 + j', none⟩) (World.block_lt_of_cell? wr _ (X1.out j' u hj))]; exact X1.out j' u hj) Try.underlying37 rfl pc_size; (focus rfl); go_simp)); go_simp)
      (refine h_read 4 rfl (by kernel_rfl) (by kernel_rfl) (h_free rfl) ?_ ?_ ?_; rotate_left; (focus (intro v hv; go_simp; rfl)); go_simp)
      (refine h_read 5 rfl (by kernel_rfl) (by kernel_rfl) (h_free rfl) ?_ ?_ ?_; rotate_left; (focus (intro v hv; go_simp; rfl)); go_simp)
      (refine h_read 6 rfl (by kernel_rfl) (by kernel_rfl) (h_free rfl) ?_ ?_ ?_; rotate_left; (focus (intro v hv; go_simp; rfl)); go_simp)
      (refine h_read 7 rfl (by kernel_rfl) (by kernel_rfl) (h_free rfl) ?_ ?_ ?_; rotate_left; (focus (intro v hv; refine run_cells 37 (.tmp 22) ?_ b' (o' + k * 2) ?_ [.string xs, .int .i64 xz] _ (fun j' u hj => by rw [hv.cell (p := ⟨b', o' + k * 2 + j', none⟩) (World.block_lt_of_cell? wr _ (X2.out j' u hj))]; exact X2.out j' u hj) Try.underlying37 rfl pc_size; (focus rfl); go_simp)); go_simp)
      (refine h_read 8 rfl (by kernel_rfl) (by kernel_rfl) (h_free rfl) (.bool false) ?_ ?_; (focus (intro v hv; first | (go_simp; done) | (go_simp; simp))); go_simp)
      refine h_done (by kernel_rfl) ?_
      go_wp2_with fail
      go_roundw
      case rel => exact ⟨k + 1, vint (by omega), by omega, Lib.hid (B.out.trans (D0.out.mono B.out.size))⟩
      case measure => simp [intOf]; omega
    · obtain rfl : n = k := by omega
      go_wp2_with fail
      go_ret
      exact ⟨rfl, B.out⟩
set_option maxRecDepth 100000 in
theorem psamep (a a' : Option Addr) (n c n' c' : Nat) (P : List Pc) (w : World) (h1 : Ls pcE w a n c P) (h2 : Ls pcE w a' n' c' P) :
    Calls Try.prog 82 #[.slice a n c, .slice a' n' c'] w fun x w' => x = .returned (.bool true) ∧ Below w.heap.size w w' := by
  have HE := Lib.hid (pceq a a' n c n' c' P w h1 h2)
  clear h1 h2
  go_enter Try.func82, Try.ntmps82
  go_wp2_with (first
    | (go_at_call 104; (with_reducible refine HE.out.mono ?_); rintro x w1 ⟨rfl, hb⟩; have B1 := Lib.hid hb; clear hb))
  go_ret
  exact ⟨rfl, B1.out⟩
set_option maxRecDepth 100000 in
set_option maxHeartbeats 8000000 in
theorem psamesnap (x y : SnX) (w : World) (hx : x.fit w) (hy : y.fit w) (e : x.s = y.s) :
    Calls Try.prog 60 #[.agg x.cells.toArray, .agg y.cells.toArray] w fun x w' => x = .returned (.bool true) ∧ Below w.heap.size w w' := by
  obtain ⟨⟨xs, xn, xb, xt, xk, P⟩, xa, xm, xc⟩ := x
  obtain ⟨ys, ya, ym, yc⟩ := y
  dsimp only at e
  subst e
  have e1 : P.length = xm := hx.P.hlen
  have e2 : P.length = ym := hy.P.hlen
  obtain rfl : xm = ym := by omega
  have HP := Lib.hid (fun w' (hb : Below w.heap.size w w') => psamep xa ya xm xc xm yc P w' (hx.P.mono pcOk hb) (hy.P.mono pcOk hb))
  clear hx hy e1 e2
  go_enter Try.func60, Try.ntmps60
  go_wp2_with (first
    | ((with_reducible refine box_row (o := ⟨some 2, _, _, _, _, _⟩) rfl _ _ rfl (snC xs xn xb xt xk xa xm xc) rfl ?_); intro w1 hr hb hz; have R1 := Lib.hid hr; have B1 := Lib.hid hb; clear hr hb hz)
    | ((with_reducible refine box_row (o := ⟨some 3, _, _, _, _, _⟩) rfl _ _ rfl (snC xs xn xb xt xk ya xm yc) rfl ?_); intro w2 hr hb hz; obtain ⟨e0, e1, e2, e3, e4, e5⟩ := hr.h6s; obtain ⟨c0, c1, c2, c3, c4, c5⟩ := (R1.out.below hb R1.out.lt).h6s; have B2 := Lib.hid (B1.out.trans (hb.mono B1.out.size)); clear hr hb hz)
    | (go_at_call 82; (with_reducible refine (HP.out w2 B2.out).mono ?_); rintro x w3 ⟨rfl, hb⟩; have B3 := Lib.hid (B2.out.trans (hb.mono B2.out.size)); clear hb))
  go_ret
  exact ⟨by first | rfl | exact one (vbool (by simp)), B3.out⟩
set_option maxRecDepth 100000 in
set_option maxHeartbeats 16000000 in
theorem pequalF (a a' : Option Addr) (n c n' c' : Nat) (L : List Sn) (w : World) (h1 : SnL w a n c L) (h2 : SnL w a' n' c' L) :
    Calls Try.prog 59 #[.slice a n c, .slice a' n' c', .func (.func 60) #[] #[]] w fun x w' => x = .returned (.bool true) ∧ Below w.heap.size w w' := by
  obtain ⟨X, hX, hXL⟩ := h1
  obtain ⟨Y, hY, hYL⟩ := h2
  obtain rfl : n = n' := by
    have e1 : X.length = L.length := by rw [← hXL]; simp
    have e2 : Y.length = L.length := by rw [← hYL]; simp
    rw [← hX.hlen, ← hY.hlen, e1, e2]
  have H1 := Lib.hid hX
  have H2 := Lib.hid hY
  have HXL := Lib.hid hXL
  have HYL := Lib.hid hYL
  have SZ := Lib.hid sn_size
  have MZ := Lib.hid sn_zero
  have hm := hX.hmax
  have hle := hX.hle
  clear hX hY hXL hYL
  go_enter Try.func59, Try.ntmps59
  go_wp2_with fail
  go_loopw [17] (fun i wr => ∃ k : Nat, i = .int .i64 (k : Int) ∧ k ≤ n ∧ Hid (Below w.heap.size w wr)) (fun i _ => n - (intOf i).toNat)
  case atStart => exact ⟨0, rfl, Nat.zero_le _, Lib.hid (Below.refl _ _)⟩
  case round =>
    obtain ⟨k, rfl, hk, B⟩ := hrel
    by_cases hlt : k < n
    · obtain ⟨b, o, x, rfl, hx1, hc1, -⟩ := H1.out.at snOk B.out k hlt
      obtain ⟨b', o', y, rfl, hx2, hc2, -⟩ := H2.out.at snOk B.out k hlt
      have hxy : x.s = y.s := by
        have e1 := map_at HXL.out hx1
        have e2 := map_at HYL.out hx2
        rw [e1] at e2; exact Option.some.inj e2
      have F1 := H1.out.hfit x (List.mem_of_getElem? hx1)
      have F2 := H2.out.hfit y (List.mem_of_getElem? hx2)
      have HSS := Lib.hid (fun w' (hb : Below w.heap.size w w') => psamesnap x y w' (snOk.mono x _ _ F1 hb) (snOk.mono y _ _ F2 hb) hxy)
      obtain ⟨⟨xs, xn, xb, xt, xk, P⟩, xa, xm, xc⟩ := x
      obtain ⟨⟨ys, yn, yb, yt, yk, Q⟩, ya, ym, yc⟩ := y
      have g1 : (0 : Int) ≤ (k : Int) := by omega
      have g2 : (k : Int) < (n : Int) := by omega
      have X1 := Lib.hid hc1
      have X2 := Lib.hid hc2
      clear hc1 hc2 hx1 hx2 F1 F2 hxy
      go_wp2_with (first
        | ((with_reducible refine load_cells (o := ⟨some 21, _, _, _, _, _⟩) rfl _ _ rfl b (o + k * 6) ?_ (snC xs xn xb xt xk xa xm xc) _ X1.out Try.underlying25 rfl ?_ ?_); (focus go_simp); (focus (exact SZ.out)))
        | ((with_reducible refine alloc_row (o := ⟨some 8, _, _, _, _, _⟩) rfl _ rfl _ MZ.out ?_); intro w1 hr hb hz; have R1 := Lib.hid hr; have D1 := Lib.hid hb; clear hr hb hz)
        | ((with_reducible refine store_row (o := ⟨none, _, _, _, _, _⟩) rfl _ (.tmp 8) _ rfl wr.heap.size (snC xs xn xb xt xk xa xm xc) ?_ ?_ 25 _ R1.out ?_ ?_ ?_ ?_); (focus go_simp); (focus (first | (go_simp; done) | (go_simp; rfl))); (focus (exact SZ.out)); (focus rfl); (focus (exact sn_one _ _ _ _ _ _ _ _)); intro w2 hr hu; have R2 := Lib.hid hr; have D2 := Lib.hid (D1.out.trans (hu.below (Nat.le_refl _))); have X22 := Lib.hid (show ∀ j v, (snC ys yn yb yt yk ya ym yc : List Value)[j]? = some v → w2.cell? ⟨b', o' + k * 6 + j, none⟩ = some v from fun j v hj => (D2.out.cell (p := ⟨b', o' + k * 6 + j, none⟩) (World.block_lt_of_cell? wr _ (X2.out j v hj))).trans (X2.out j v hj)); clear hr hu)
        | ((with_reducible refine load_cells (o := ⟨some 25, _, _, _, _, _⟩) rfl _ _ rfl b' (o' + k * 6) ?_ (snC ys yn yb yt yk ya ym yc) _ X22.out Try.underlying25 rfl ?_ ?_); (focus go_simp); (focus (exact SZ.out)))
        | ((with_reducible refine alloc_row (o := ⟨some 9, _, _, _, _, _⟩) rfl _ rfl _ MZ.out ?_); intro w3 hr hb hz; have Q3 := Lib.hid hr; have R3 := Lib.hid (R2.out.below hb R2.out.lt); have LT := Lib.hid R2.out.lt; have D3 := Lib.hid (D2.out.trans (hb.mono D2.out.size)); clear hr hb hz)
        | ((with_reducible refine store_row (o := ⟨none, _, _, _, _, _⟩) rfl _ (.tmp 9) _ rfl w2.heap.size (snC ys yn yb yt yk ya ym yc) ?_ ?_ 25 _ Q3.out ?_ ?_ ?_ ?_); (focus go_simp); (focus (first | (go_simp; done) | (go_simp; rfl))); (focus (exact SZ.out)); (focus rfl); (focus (exact sn_one _ _ _ _ _ _ _ _)); intro w4 hr hu; have Q4 := Lib.hid hr; have R4 := Lib.hid (R3.out.upd hu (Nat.ne_of_lt LT.out)); have D4 := Lib.hid (D3.out.trans (hu.below D2.out.size)); clear hr hu)
        | ((with_reducible refine load_row (o := ⟨some 27, _, _, _, _, _⟩) rfl _ _ rfl wr.heap.size ?_ _ (snC xs xn xb xt xk xa xm xc) _ R4.out Try.underlying25 rfl ?_ ?_); (focus go_simp); (focus (exact SZ.out)))
        | ((with_reducible refine load_row (o := ⟨some 28, _, _, _, _, _⟩) rfl _ _ rfl w2.heap.size ?_ _ (snC ys yn yb yt yk ya ym yc) _ Q4.out Try.underlying25 rfl ?_ ?_); (focus go_simp); (focus (exact SZ.out)))
        | (go_at_call 60; (with_reducible refine (HSS.out w4 (B.out.trans (D4.out.mono B.out.size))).mono ?_); rintro x w5 ⟨rfl, hb⟩; have B5 := Lib.hid ((B.out.trans (D4.out.mono B.out.size)).trans (hb.mono (Nat.le_trans B.out.size D4.out.size))); clear hb))
      go_roundw
      case rel => exact ⟨k + 1, vint (by omega), by omega, B5⟩
      case measure => simp [intOf]; omega
    · obtain rfl : n = k := by omega
      go_wp2_with fail
      go_ret
      exact ⟨rfl, B.out⟩
set_option maxRecDepth 100000 in
theorem psames (a a' : Option Addr) (n c n' c' : Nat) (L : List Sn) (w : World) (h1 : SnL w a n c L) (h2 : SnL w a' n' c' L) :
    Calls Try.prog 30 #[.slice a n c, .slice a' n' c'] w fun x w' => x = .returned (.bool true) ∧ Below w.heap.size w w' := by
  have HE := Lib.hid (pequalF a a' n c n' c' L w h1 h2)
  clear h1 h2
  go_enter Try.func30, Try.ntmps30
  go_wp2_with (first
    | (go_at_call 59; (with_reducible refine HE.out.mono ?_); rintro x w1 ⟨rfl, hb⟩; have B1 := Lib.hid hb; clear hb))
  go_ret
  exact ⟨rfl, B1.out⟩
end Go.Proofs.Ytpcpgodnhamdiaa.W
