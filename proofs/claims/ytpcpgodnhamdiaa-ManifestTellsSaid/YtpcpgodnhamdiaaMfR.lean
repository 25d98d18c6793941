/- LAYER 20 (manifest): the reference's SamePieces and Same of what is the same; few of the law. LAYER 20 (manifest): the reference's Same of lists that are the same. -/
import Derived.Test.YtpcpgodnhamdiaaMfFw
import Derived.Test.YtpcpgodnhamdiaaTail
import Derived.Test.YtpcpgodnhamdiaaTwo
set_option linter.unusedSimpArgs false
set_option linter.unusedVariables false
namespace Go.Proofs.Ytpcpgodnhamdiaa.W
open Go Go.ChangeShapes Go.WideShapes Go.ChangeAt Go.RowKit
open Go.Proofs.Ytpcpgodnhamdiaa.P (enc dec)
open Go.Proofs.Ytpcpgodnhamdiaa.S

set_option maxRecDepth 100000 in
set_option maxHeartbeats 16000000 in
theorem usamep (a a' : Option Addr) (n c n' c' : Nat) (P : List Pc) (w : World) (h1 : Ls pcE w a n c P) (h2 : Ls pcE w a' n' c' P) :
    Calls Try.prog 51 #[.slice a n c, .slice a' n' c'] w fun x w' => x = .returned (.bool true) ∧ Below w.heap.size w w' := by
  obtain rfl : n = n' := by rw [← h1.hlen, ← h2.hlen]
  have H1 := Lib.hid h1
  have H2 := Lib.hid h2
  have hm := h1.hmax
  have hle := h1.hle
  clear h1 h2
  go_enter Try.func51, Try.ntmps51
  go_wp2_with fail
  go_loopw [5] (fun i wr => ∃ k : Nat, i = .int .i64 (k : Int) ∧ k ≤ n ∧ Hid (Below w.heap.size w wr)) (fun i _ => n - (intOf i).toNat)
  case atStart => exact ⟨0, rfl, Nat.zero_le _, Lib.hid (Below.refl _ _)⟩
  case round =>
    obtain ⟨k, rfl, hk, B⟩ := hrel
    by_cases hlt : k < n
    · obtain ⟨b, o, x, rfl, hx1, hc1, -⟩ := H1.out.at pcOk B.out k hlt
      obtain ⟨b', o', y, rfl, hx2, hc2, -⟩ := H2.out.at pcOk B.out k hlt
      obtain rfl : x = y := by rw [hx1] at hx2; exact Option.some.inj hx2
      obtain ⟨xs, xz⟩ := x
      have g1 : (0 : Int) ≤ (k : Int) := by omega
      have g2 : (k : Int) < (n : Int) := by omega
      have X1 := Lib.hid hc1
      have X2 := Lib.hid hc2
      clear hc1 hc2 hx1 hx2
      go_wp2_with fail
      refine region_h (fun v => Below wr.heap.size wr v) (by kernel_rfl) (by kernel_rfl) (Below.refl _ _).drew ?_
      obtain ⟨wd, hwd⟩ : ∃ wd, wr.drew = wd := ⟨_, rfl⟩
      have D0 : Hid (Below wr.heap.size wr wd) := Lib.hid (by rw [← hwd]; exact (Below.refl _ _).drew)
      rw [hwd]
      clear hwd
      (refine h_read 0 rfl (by kernel_rfl) (by kernel_rfl) (h_free rfl) ?_ ?_ ?_; rotate_left; (focus (intro v hv; go_simp; rfl)); go_simp)
      (refine h_read 1 rfl (by kernel_rfl) (by kernel_rfl) (h_free rfl) ?_ ?_ ?_; rotate_left; (focus (intro v hv; go_simp; rfl)); go_simp)
      (refine h_read 2 rfl (by kernel_rfl) (by kernel_rfl) (h_free rfl) ?_ ?_ ?_; rotate_left; (focus (intro v hv; go_simp; rfl)); go_simp)
      (refine h_read 3 rfl (by kernel_rfl) (by kernel_rfl) (h_free rfl) ?_ ?_ ?_; rotate_left; (focus (intro v hv; refine run_cells 37 (.tmp 19) ?_ b (o + k * 2) ?_ [.string xs, .int .i64 xz] _ (fun j' u hj => by rw [hv.cell (p := ⟨b, o + k * 2 + j', none⟩) (World.block_lt_of_cell? wr _ (X1.out j' u hj))]; exact X1.out j' u hj) Try.underlying37 rfl pc_size; (focus rfl); go_simp)); go_simp)
      (refine h_read 4 rfl (by kernel_rfl) (by kernel_rfl) (h_free rfl) ?_ ?_ ?_; rotate_left; (focus (intro v hv; go_simp; rfl)); go_simp)
      (refine h_read 5 rfl (by kernel_rfl) (by kernel_rfl) (h_free rfl) ?_ ?_ ?_; rotate_left; (focus (intro v hv; go_simp; rfl)); go_simp)
      (refine h_read 6 rfl (by kernel_rfl) (by kernel_rfl) (h_free rfl) ?_ ?_ ?_; rotate_left; (focus (intro v hv; go_simp; rfl)); go_simp)
      (refine h_read 7 rfl (by kernel_rfl) (by kernel_rfl) (h_free rfl) ?_ ?_ ?_; rotate_left; (focus (intro v hv; refine run_cells 37 (.tmp 23) ?_ b' (o' + k * 2) ?_ [.string xs, .int .i64 xz] _ (fun j' u hj => by rw [hv.cell (p := ⟨b', o' + k * 2 + j', none⟩) (World.block_lt_of_cell? wr _ (X2.out j' u hj))]; exact X2.out j' u hj) Try.underlying37 rfl pc_size; (focus rfl); go_simp)); go_simp)
      (refine h_read 8 rfl (by kernel_rfl) (by kernel_rfl) (h_free rfl) (.bool false) ?_ ?_; (focus (intro v hv; first | (go_simp; done) | (go_simp; simp))); go_simp)
      refine h_done (by kernel_rfl) ?_
      go_wp2_with fail
      go_roundw
      case rel => exact ⟨k + 1, vint (by omega), by omega, Lib.hid (B.out.trans (D0.out.mono B.out.size))⟩
      case measure => simp [intOf]; omega
    · obtain rfl : n = k := by omega
      go_wp2_with fail
      go_ret
      exact ⟨rfl, B.out⟩
end Go.Proofs.Ytpcpgodnhamdiaa.W

namespace Go.Proofs.Ytpcpgodnhamdiaa.W
open Go Go.ChangeShapes Go.WideShapes Go.ChangeAt Go.RowKit
open Go.Proofs.Ytpcpgodnhamdiaa.P (enc dec)
open Go.Proofs.Ytpcpgodnhamdiaa.S

set_option maxRecDepth 100000 in
set_option maxHeartbeats 16000000 in
theorem usames (a a' : Option Addr) (n c n' c' : Nat) (L : List Sn) (w : World) (h1 : SnL w a n c L) (h2 : SnL w a' n' c' L) :
    Calls Try.prog 13 #[.slice a n c, .slice a' n' c'] w fun x w' => x = .returned (.bool true) ∧ Below w.heap.size w w' := by
  obtain ⟨X, hX, hXL⟩ := h1
  obtain ⟨Y, hY, hYL⟩ := h2
  obtain rfl : n = n' := by
    have e1 : X.length = L.length := by rw [← hXL]; simp
    have e2 : Y.length = L.length := by rw [← hYL]; simp
    rw [← hX.hlen, ← hY.hlen, e1, e2]
  have H1 := Lib.hid hX
  have H2 := Lib.hid hY
  have HXL := Lib.hid hXL
  have HYL := Lib.hid hYL
  have SZ := Lib.hid sn_size
  have MZ := Lib.hid sn_zero
  have hm := hX.hmax
  have hle := hX.hle
  clear hX hY hXL hYL
  go_enter Try.func13, Try.ntmps13
  go_wp2_with fail
  go_loopw [5] (fun i wr => ∃ k : Nat, i = .int .i64 (k : Int) ∧ k ≤ n ∧ Hid (Below w.heap.size w wr)) (fun i _ => n - (intOf i).toNat)
  case atStart => exact ⟨0, rfl, Nat.zero_le _, Lib.hid (Below.refl _ _)⟩
  case round =>
    obtain ⟨k, rfl, hk, B⟩ := hrel
    by_cases hlt : k < n
    · obtain ⟨b, o, x, rfl, hx1, hc1, hf1⟩ := H1.out.at snOk B.out k hlt
      obtain ⟨b', o', y, rfl, hx2, hc2, hf2⟩ := H2.out.at snOk B.out k hlt
      have hxy : x.s = y.s := by
        have e1 := map_at HXL.out hx1
        have e2 := map_at HYL.out hx2
        rw [e1] at e2; exact Option.some.inj e2
      have hpx : x.s.P.length = x.m := hf1.P.hlen
      have hpy : y.s.P.length = y.m := hf2.P.hlen
      have F1 := H1.out.hfit x (List.mem_of_getElem? hx1)
      have F2 := H2.out.hfit y (List.mem_of_getElem? hx2)
      obtain ⟨⟨xs, xn, xb, xt, xk, P⟩, xa, xm, xc⟩ := x
      obtain ⟨ys, ya, ym, yc⟩ := y
      dsimp only at hxy hpx hpy
      subst hxy
      dsimp only at hpy
      obtain rfl : xm = ym := by omega
      have HSP := Lib.hid (fun w' (hb : Below w.heap.size w w') => usamep xa ya xm xc xm yc P w' (F1.P.mono pcOk hb) (F2.P.mono pcOk hb))
      have g1 : (0 : Int) ≤ (k : Int) := by omega
      have g2 : (k : Int) < (n : Int) := by omega
      have X1 := Lib.hid hc1
      have X2 := Lib.hid hc2
      clear hc1 hc2 hx1 hx2 hf1 hf2 F1 F2 hpx hpy
      go_wp2_with fail
      refine region_h (fun v => Below wr.heap.size wr v) (by kernel_rfl) (by kernel_rfl) (Below.refl _ _).drew ?_
      obtain ⟨wd, hwd⟩ : ∃ wd, wr.drew = wd := ⟨_, rfl⟩
      have D0 : Hid (Below wr.heap.size wr wd) := Lib.hid (by rw [← hwd]; exact (Below.refl _ _).drew)
      rw [hwd]
      clear hwd
      (refine h_read 0 rfl (by kernel_rfl) (by kernel_rfl) (h_free rfl) ?_ ?_ ?_; rotate_left; (focus (intro v hv; go_simp; rfl)); go_simp)
      (refine h_read 1 rfl (by kernel_rfl) (by kernel_rfl) (h_free rfl) ?_ ?_ ?_; rotate_left; (focus (intro v hv; go_simp; rfl)); go_simp)
      (refine h_read 2 rfl (by kernel_rfl) (by kernel_rfl) (h_free rfl) ?_ ?_ ?_; rotate_left; (focus (intro v hv; go_simp; rfl)); go_simp)
      (refine h_read 3 rfl (by kernel_rfl) (by kernel_rfl) (h_free rfl) ?_ ?_ ?_; rotate_left; (focus (intro v hv; refine run_cells 25 (.tmp 21) ?_ b (o + k * 6) ?_ (snC xs xn xb xt xk xa xm xc) _ (fun j' u hj => by rw [hv.cell (p := ⟨b, o + k * 6 + j', none⟩) (World.block_lt_of_cell? wr _ (X1.out j' u hj))]; exact X1.out j' u hj) Try.underlying25 rfl sn_size; (focus rfl); go_simp)); go_simp)
      (refine h_read 4 rfl (by kernel_rfl) (by kernel_rfl) (h_free rfl) ?_ ?_ ?_; rotate_left; (focus (intro v hv; go_simp; rfl)); go_simp)
      (refine h_read 5 rfl (by kernel_rfl) (by kernel_rfl) (h_free rfl) ?_ ?_ ?_; rotate_left; (focus (intro v hv; go_simp; rfl)); go_simp)
      (refine h_read 6 rfl (by kernel_rfl) (by kernel_rfl) (h_free rfl) ?_ ?_ ?_; rotate_left; (focus (intro v hv; go_simp; rfl)); go_simp)
      (refine h_read 7 rfl (by kernel_rfl) (by kernel_rfl) (h_free rfl) ?_ ?_ ?_; rotate_left; (focus (intro v hv; refine run_cells 25 (.tmp 25) ?_ b' (o' + k * 6) ?_ (snC xs xn xb xt xk ya xm yc) _ (fun j' u hj => by rw [hv.cell (p := ⟨b', o' + k * 6 + j', none⟩) (World.block_lt_of_cell? wr _ (X2.out j' u hj))]; exact X2.out j' u hj) Try.underlying25 rfl sn_size; (focus rfl); go_simp)); go_simp)
      refine h_two 8 9 rfl rfl (by kernel_rfl) ?_ ?_
      · intro K hK
        refine alloc_row rfl _ rfl _ MZ.out ?_
        intro w1 hr hb hz
        have RA := Lib.hid hr; have BA := Lib.hid (D0.out.trans (hb.mono D0.out.size)); have SA := Lib.hid (show wd.heap.size < w1.heap.size by omega)
        clear hr hb hz
        go_wp2_with fail
        refine hK _ _ BA.out ?_
        clear hK K
        (refine h_list 9 rfl (by kernel_rfl) ?_; intro K hK)
        refine alloc_row rfl _ rfl _ MZ.out ?_
        intro w2 hr hb hz
        have RB := Lib.hid hr; have RA2 := Lib.hid (RA.out.below hb RA.out.lt); have BB := Lib.hid (BA.out.trans (hb.mono BA.out.size))
        clear hr hb hz
        go_wp2_with fail
        refine hK _ _ BB.out ?_
        clear hK K
        (refine h_list 10 rfl (by kernel_rfl) ?_; intro K hK)
        refine store_row rfl _ (.tmp 6) _ rfl wd.heap.size (snC xs xn xb xt xk xa xm xc) ?_ ?_ 25 _ RA2.out SZ.out rfl (sn_one _ _ _ _ _ _ _ _) ?_
        · go_simp
        · first | (go_simp; done) | (go_simp; rfl)
        intro w3 hr hu
        have R63 := Lib.hid hr; have R73 := Lib.hid (RB.out.upd hu (Nat.ne_of_gt SA.out)); have BC := Lib.hid (BB.out.trans (hu.below D0.out.size))
        clear hr hu
        go_wp2_with fail
        refine hK _ _ BC.out ?_
        clear hK K
        (refine h_list 11 rfl (by kernel_rfl) ?_; intro K hK)
        refine store_row rfl _ (.tmp 7) _ rfl w1.heap.size (snC xs xn xb xt xk ya xm yc) ?_ ?_ 25 _ R73.out SZ.out rfl (sn_one _ _ _ _ _ _ _ _) ?_
        · go_simp
        · first | (go_simp; done) | (go_simp; rfl)
        intro w4 hr hu
        obtain ⟨e0, e1, e2, e3, e4, e5⟩ := hr.h6s
        obtain ⟨c0, c1, c2, c3, c4, c5⟩ := (R63.out.upd hu (Nat.ne_of_lt SA.out)).h6s
        have BD := Lib.hid (BC.out.trans (hu.below BA.out.size))
        clear hr hu
        go_wp2_with fail
        refine hK _ _ BD.out ?_
        clear hK K
        refine h_done (by kernel_rfl) ?_
        go_wp2_with (first
          | (go_at_call 51; (with_reducible refine (HSP.out w4 (B.out.trans (BD.out.mono B.out.size))).mono ?_); rintro x w5 ⟨rfl, hb5⟩; have BE := Lib.hid ((B.out.trans (BD.out.mono B.out.size)).trans (hb5.mono (Nat.le_trans B.out.size BD.out.size))); clear hb5 c0 c1 c2 c3 c4 c5 e0 e1 e2 e3 e4 e5))
        go_roundw
        case rel => exact ⟨k + 1, vint (by omega), by omega, BE⟩
        case measure => simp [intOf]; omega
      · intro K hK
        refine alloc_row rfl _ rfl _ MZ.out ?_
        intro w1 hr hb hz
        have RA := Lib.hid hr; have BA := Lib.hid (D0.out.trans (hb.mono D0.out.size)); have SA := Lib.hid (show wd.heap.size < w1.heap.size by omega)
        clear hr hb hz
        go_wp2_with fail
        refine hK _ _ BA.out ?_
        clear hK K
        (refine h_list 8 rfl (by kernel_rfl) ?_; intro K hK)
        refine alloc_row rfl _ rfl _ MZ.out ?_
        intro w2 hr hb hz
        have RB := Lib.hid hr; have RA2 := Lib.hid (RA.out.below hb RA.out.lt); have BB := Lib.hid (BA.out.trans (hb.mono BA.out.size))
        clear hr hb hz
        go_wp2_with fail
        refine hK _ _ BB.out ?_
        clear hK K
        (refine h_list 10 rfl (by kernel_rfl) ?_; intro K hK)
        refine store_row rfl _ (.tmp 6) _ rfl w1.heap.size (snC xs xn xb xt xk xa xm xc) ?_ ?_ 25 _ RB.out SZ.out rfl (sn_one _ _ _ _ _ _ _ _) ?_
        · go_simp
        · first | (go_simp; done) | (go_simp; rfl)
        intro w3 hr hu
        have R63 := Lib.hid hr; have R73 := Lib.hid (RA2.out.upd hu (Nat.ne_of_lt SA.out)); have BC := Lib.hid (BB.out.trans (hu.below BA.out.size))
        clear hr hu
        go_wp2_with fail
        refine hK _ _ BC.out ?_
        clear hK K
        (refine h_list 11 rfl (by kernel_rfl) ?_; intro K hK)
        refine store_row rfl _ (.tmp 7) _ rfl wd.heap.size (snC xs xn xb xt xk ya xm yc) ?_ ?_ 25 _ R73.out SZ.out rfl (sn_one _ _ _ _ _ _ _ _) ?_
        · go_simp
        · first | (go_simp; done) | (go_simp; rfl)
        intro w4 hr hu
        obtain ⟨e0, e1, e2, e3, e4, e5⟩ := hr.h6s
        obtain ⟨c0, c1, c2, c3, c4, c5⟩ := (R63.out.upd hu (Nat.ne_of_gt SA.out)).h6s
        have BD := Lib.hid (BC.out.trans (hu.below D0.out.size))
        clear hr hu
        go_wp2_with fail
        refine hK _ _ BD.out ?_
        clear hK K
        refine h_done (by kernel_rfl) ?_
        go_wp2_with (first
          | (go_at_call 51; (with_reducible refine (HSP.out w4 (B.out.trans (BD.out.mono B.out.size))).mono ?_); rintro x w5 ⟨rfl, hb5⟩; have BE := Lib.hid ((B.out.trans (BD.out.mono B.out.size)).trans (hb5.mono (Nat.le_trans B.out.size BD.out.size))); clear hb5 c0 c1 c2 c3 c4 c5 e0 e1 e2 e3 e4 e5))
        go_roundw
        case rel => exact ⟨k + 1, vint (by omega), by omega, BE⟩
        case measure => simp [intOf]; omega
    · obtain rfl : n = k := by omega
      go_wp2_with fail
      go_ret
      exact ⟨rfl, B.out⟩
end Go.Proofs.Ytpcpgodnhamdiaa.W
