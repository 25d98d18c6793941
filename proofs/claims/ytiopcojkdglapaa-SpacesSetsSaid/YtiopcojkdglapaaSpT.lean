/- LAYER 18 (spaces): Check, May, Same, Put of the reference. -/
import Derived.Test.YtiopcojkdglapaaSpU
import Derived.Test.YtiopcojkdglapaaEnO
import Derived.DeepKeys
set_option linter.unusedSimpArgs false
set_option linter.unusedVariables false
namespace Go.Proofs.Ytiopcojkdglapaa.W
open Go Go.ChangeShapes Go.WideShapes Go.ChangeAt Go.RowKit
open Go.Proofs.Ytiopcojkdglapaa.P (enc dec)

theorem checkV_false {L : List Sp} (h : chkS none L = false) : checkV L = false := by unfold checkV; rw [h]; rfl
set_option maxRecDepth 100000 in
set_option maxHeartbeats 16000000 in
theorem zcheck (a : Option Addr) (n c : Nat) (L : List Sp) (w : World) (h : Ls spE w a n c L) :
    Calls Try.prog 23 #[.slice a n c] w fun x w' => x = .returned (.bool (checkV L)) ∧ Below w.heap.size w w' := by
  have H := Lib.hid h
  have HL := Lib.hid h.hlen
  have hm := h.hmax
  have hle := h.hle
  have SZ := Lib.hid sp_size
  obtain ⟨V, hV⟩ : ∃ V, checkV L = V := ⟨_, rfl⟩
  rw [hV]
  have HV := Lib.hid hV
  clear h hV
  go_enter Try.func23, Try.ntmps23
  go_wp2_with fail
  go_loopw [3] (fun i wr => ∃ k : Nat, i = .int .i64 (k : Int) ∧ k ≤ n ∧ Hid (chkS none (L.take k) = true) ∧ Hid (Below w.heap.size w wr)) (fun i _ => n - (intOf i).toNat)
  case atStart => exact ⟨0, rfl, Nat.zero_le _, Lib.hid rfl, Lib.hid (Below.refl _ _)⟩
  case round =>
    obtain ⟨k, rfl, hk, P, B⟩ := hrel
    by_cases hlt : k < n
    · obtain ⟨b, off, x, rfl, hx, hcell, hfx⟩ := H.out.at spOk B.out k hlt
      obtain ⟨xn, xr, xw⟩ := x
      have XC := Lib.hid hcell
      have HX := Lib.hid hx
      have FX := Lib.hid hfx
      have hnx := chk_next L k _ hx
      rw [P.out, Bool.true_and] at hnx
      have hbad : chkS none (L.take (k + 1)) = false → V = false := fun h => by rw [← HV.out]; exact checkV_false (chk_take L none (k + 1) h)
      obtain ⟨ok, hok⟩ : ∃ b, Sp.ok ⟨xn, xr, xw⟩ = b := ⟨_, rfl⟩
      rw [hok] at hnx
      have HOK := Lib.hid hok
      have g1 : (0 : Int) ≤ (k : Int) := by omega
      have g2 : (k : Int) < (n : Int) := by omega
      clear hx hcell hfx hok
      rcases ok with _ | _
      · have HF := Lib.hid (hbad (by rw [hnx]; rfl))
        clear hnx hbad
        go_wp2_with fail
        refine region_h (fun v => Below wr.heap.size wr v) (by kernel_rfl) (by kernel_rfl) (Below.refl _ _).drew ?_
        obtain ⟨wd, hwd⟩ : ∃ wd, wr.drew = wd := ⟨_, rfl⟩
        have D0 : Hid (Below wr.heap.size wr wd) := Lib.hid (by rw [← hwd]; exact (Below.refl _ _).drew)
        rw [hwd]
        clear hwd
        (refine h_read 0 rfl (by kernel_rfl) (by kernel_rfl) (h_free rfl) ?_ ?_ ?_; rotate_left; (focus (intro v hv; go_simp; rfl)); go_simp)
        (refine h_read 1 rfl (by kernel_rfl) (by kernel_rfl) (h_free rfl) ?_ ?_ ?_; rotate_left; (focus (intro v hv; go_simp; rfl)); go_simp)
        (refine h_read 2 rfl (by kernel_rfl) (by kernel_rfl) (h_free rfl) ?_ ?_ ?_; rotate_left; (focus (intro v hv; go_simp; rfl)); go_simp)
        (refine h_read 3 rfl (by kernel_rfl) (by kernel_rfl) (h_free rfl) ?_ ?_ ?_; rotate_left; (focus (intro v hv; refine run_cells 24 (.tmp 12) ?_ b (off + k * 3) ?_ [.string xn, .int .i64 xr, .int .i64 xw] _ (fun j' u hj => by rw [hv.cell (p := ⟨b, off + k * 3 + j', none⟩) (World.block_lt_of_cell? wr _ (XC.out j' u hj))]; exact XC.out j' u hj) Try.underlying24 rfl sp_size; (focus rfl); go_simp)); go_simp)
        (refine h_call 4 rfl (by kernel_rfl) (h_free rfl) 75 ?_ ?_ ?_; rotate_left; (focus (go_simp; rfl)))
        refine (zone ⟨xn, xr, xw⟩ wd FX.out).mono ?_
        rw [HOK.out]
        rintro x w5 ⟨rfl, hb5⟩
        have J5 := Lib.hid (D0.out.trans (hb5.mono D0.out.size))
        clear hb5
        refine ⟨_, rfl, J5.out, ?_⟩
        go_simp
        (refine h_read 5 rfl (by kernel_rfl) (by kernel_rfl) (h_free rfl) ?_ ?_ ?_; rotate_left; (focus (intro v hv; go_simp; rfl)); go_simp)
        (refine h_read 6 rfl (by kernel_rfl) (by kernel_rfl) (h_free rfl) ?_ ?_ ?_; rotate_left; (focus (intro v hv; go_simp; rfl)); go_simp)
        (refine h_skip 7 rfl (by kernel_rfl) (by kernel_rfl) ?_ ?_; (focus (go_simp; first | done | (intro h; cases h) | simp)); go_simp)
        (refine h_skip 8 rfl (by kernel_rfl) (by kernel_rfl) ?_ ?_; (focus (go_simp; first | done | (intro h; cases h) | simp)); go_simp)
        (refine h_skip 9 rfl (by kernel_rfl) (by kernel_rfl) ?_ ?_; (focus (go_simp; first | done | (intro h; cases h) | simp)); go_simp)
        (refine h_skip 10 rfl (by kernel_rfl) (by kernel_rfl) ?_ ?_; (focus (go_simp; first | done | (intro h; cases h) | simp)); go_simp)
        (refine h_skip 11 rfl (by kernel_rfl) (by kernel_rfl) ?_ ?_; (focus (go_simp; first | done | (intro h; cases h) | simp)); go_simp)
        (refine h_skip 12 rfl (by kernel_rfl) (by kernel_rfl) ?_ ?_; (focus (go_simp; first | done | (intro h; cases h) | simp)); go_simp)
        (refine h_skip 13 rfl (by kernel_rfl) (by kernel_rfl) ?_ ?_; (focus (go_simp; first | done | (intro h; cases h) | simp)); go_simp)
        (refine h_skip 14 rfl (by kernel_rfl) (by kernel_rfl) ?_ ?_; (focus (go_simp; first | done | (intro h; cases h) | simp)); go_simp)
        (refine h_skip 15 rfl (by kernel_rfl) (by kernel_rfl) ?_ ?_; (focus (go_simp; first | done | (intro h; cases h) | simp)); go_simp)
        (refine h_skip 16 rfl (by kernel_rfl) (by kernel_rfl) ?_ ?_; (focus (go_simp; first | done | (intro h; cases h) | simp)); go_simp)
        (refine h_skip 17 rfl (by kernel_rfl) (by kernel_rfl) ?_ ?_; (focus (go_simp; first | done | (intro h; cases h) | simp)); go_simp)
        (refine h_skip 18 rfl (by kernel_rfl) (by kernel_rfl) ?_ ?_; (focus (go_simp; first | done | (intro h; cases h) | simp)); go_simp)
        (refine h_skip 19 rfl (by kernel_rfl) (by kernel_rfl) ?_ ?_; (focus (go_simp; first | done | (intro h; cases h) | simp)); go_simp)
        (refine h_skip 20 rfl (by kernel_rfl) (by kernel_rfl) ?_ ?_; (focus (go_simp; first | done | (intro h; cases h) | simp)); go_simp)
        (refine h_skip 21 rfl (by kernel_rfl) (by kernel_rfl) ?_ ?_; (focus (go_simp; first | done | (intro h; cases h) | simp)); go_simp)
        (refine h_skip 22 rfl (by kernel_rfl) (by kernel_rfl) ?_ ?_; (focus (go_simp; first | done | (intro h; cases h) | simp)); go_simp)
        (refine h_read 23 rfl (by kernel_rfl) (by kernel_rfl) (h_free rfl) ?_ ?_ ?_; rotate_left; (focus (intro v hv; go_simp; rfl)); go_simp)
        refine h_done (by kernel_rfl) ?_
        go_wp2_with fail
        go_ret
        exact ⟨one (vbool (by rw [HF.out])), B.out.trans (J5.out.mono B.out.size)⟩
      · rcases k with _ | m
        · have HN := Lib.hid (hnx.trans rfl)
          clear hnx hbad
          have z1 : ¬ (0 : Int) < ((0 : Nat) : Int) := by omega
          go_wp2_with fail
          refine region_h (fun v => Below wr.heap.size wr v) (by kernel_rfl) (by kernel_rfl) (Below.refl _ _).drew ?_
          obtain ⟨wd, hwd⟩ : ∃ wd, wr.drew = wd := ⟨_, rfl⟩
          have D0 : Hid (Below wr.heap.size wr wd) := Lib.hid (by rw [← hwd]; exact (Below.refl _ _).drew)
          rw [hwd]
          clear hwd
          (refine h_read 0 rfl (by kernel_rfl) (by kernel_rfl) (h_free rfl) ?_ ?_ ?_; rotate_left; (focus (intro v hv; go_simp; rfl)); go_simp)
          (refine h_read 1 rfl (by kernel_rfl) (by kernel_rfl) (h_free rfl) ?_ ?_ ?_; rotate_left; (focus (intro v hv; go_simp; rfl)); go_simp)
          (refine h_read 2 rfl (by kernel_rfl) (by kernel_rfl) (h_free rfl) ?_ ?_ ?_; rotate_left; (focus (intro v hv; go_simp; rfl)); go_simp)
          (refine h_read 3 rfl (by kernel_rfl) (by kernel_rfl) (h_free rfl) ?_ ?_ ?_; rotate_left; (focus (intro v hv; refine run_cells 24 (.tmp 12) ?_ b (off + 0 * 3) ?_ [.string xn, .int .i64 xr, .int .i64 xw] _ (fun j' u hj => by rw [hv.cell (p := ⟨b, off + 0 * 3 + j', none⟩) (World.block_lt_of_cell? wr _ (XC.out j' u hj))]; exact XC.out j' u hj) Try.underlying24 rfl sp_size; (focus rfl); go_simp)); go_simp)
          (refine h_call 4 rfl (by kernel_rfl) (h_free rfl) 75 ?_ ?_ ?_; rotate_left; (focus (go_simp; rfl)))
          refine (zone ⟨xn, xr, xw⟩ wd FX.out).mono ?_
          rw [HOK.out]
          rintro x w5 ⟨rfl, hb5⟩
          have J5 := Lib.hid (D0.out.trans (hb5.mono D0.out.size))
          clear hb5
          refine ⟨_, rfl, J5.out, ?_⟩
          go_simp
          (refine h_read 5 rfl (by kernel_rfl) (by kernel_rfl) (h_free rfl) ?_ ?_ ?_; rotate_left; (focus (intro v hv; go_simp; rfl)); go_simp)
          (refine h_read 6 rfl (by kernel_rfl) (by kernel_rfl) (h_free rfl) ?_ ?_ ?_; rotate_left; (focus (intro v hv; go_simp; rfl)); go_simp)
          (refine h_read 7 rfl (by kernel_rfl) (by kernel_rfl) ?_ ?_ ?_ ?_; (focus (go_simp; done)); rotate_left; (focus (intro v hv; go_simp; rfl)); go_simp)
          (refine h_read 8 rfl (by kernel_rfl) (by kernel_rfl) ?_ ?_ ?_ ?_; (focus (go_simp; done)); rotate_left; (focus (intro v hv; go_simp; rfl)); go_simp)
          (refine h_read 9 rfl (by kernel_rfl) (by kernel_rfl) ?_ ?_ ?_ ?_; (focus (go_simp; done)); rotate_left; (focus (intro v hv; go_simp; rfl)); go_simp)
          (refine h_skip 10 rfl (by kernel_rfl) (by kernel_rfl) ?_ ?_; (focus (go_simp; first | done | (intro h; cases h) | simp)); go_simp)
          (refine h_skip 11 rfl (by kernel_rfl) (by kernel_rfl) ?_ ?_; (focus (go_simp; first | done | (intro h; cases h) | simp)); go_simp)
          (refine h_skip 12 rfl (by kernel_rfl) (by kernel_rfl) ?_ ?_; (focus (go_simp; first | done | (intro h; cases h) | simp)); go_simp)
          (refine h_skip 13 rfl (by kernel_rfl) (by kernel_rfl) ?_ ?_; (focus (go_simp; first | done | (intro h; cases h) | simp)); go_simp)
          (refine h_skip 14 rfl (by kernel_rfl) (by kernel_rfl) ?_ ?_; (focus (go_simp; first | done | (intro h; cases h) | simp)); go_simp)
          (refine h_skip 15 rfl (by kernel_rfl) (by kernel_rfl) ?_ ?_; (focus (go_simp; first | done | (intro h; cases h) | simp)); go_simp)
          (refine h_skip 16 rfl (by kernel_rfl) (by kernel_rfl) ?_ ?_; (focus (go_simp; first | done | (intro h; cases h) | simp)); go_simp)
          (refine h_skip 17 rfl (by kernel_rfl) (by kernel_rfl) ?_ ?_; (focus (go_simp; first | done | (intro h; cases h) | simp)); go_simp)
          (refine h_skip 18 rfl (by kernel_rfl) (by kernel_rfl) ?_ ?_; (focus (go_simp; first | done | (intro h; cases h) | simp)); go_simp)
          (refine h_skip 19 rfl (by kernel_rfl) (by kernel_rfl) ?_ ?_; (focus (go_simp; first | done | (intro h; cases h) | simp)); go_simp)
          (refine h_skip 20 rfl (by kernel_rfl) (by kernel_rfl) ?_ ?_; (focus (go_simp; first | done | (intro h; cases h) | simp)); go_simp)
          (refine h_skip 21 rfl (by kernel_rfl) (by kernel_rfl) ?_ ?_; (focus (go_simp; first | done | (intro h; cases h) | simp)); go_simp)
          (refine h_read 22 rfl (by kernel_rfl) (by kernel_rfl) ?_ ?_ ?_ ?_; (focus (go_simp; done)); rotate_left; (focus (intro v hv; go_simp; rfl)); go_simp)
          (refine h_read 23 rfl (by kernel_rfl) (by kernel_rfl) (h_free rfl) ?_ ?_ ?_; rotate_left; (focus (intro v hv; go_simp; rfl)); go_simp)
          refine h_done (by kernel_rfl) ?_
          go_wp2_with fail
          go_roundw
          case rel => exact ⟨1, vint (by omega), by omega, HN, Lib.hid (B.out.trans (J5.out.mono B.out.size))⟩
          case measure => simp [intOf]; omega
        · obtain ⟨b2, o2, y, hab, hy, hcy, -⟩ := H.out.at spOk B.out m (by omega)
          obtain ⟨yn, yr, yw⟩ := y
          obtain ⟨rfl, rfl⟩ : b = b2 ∧ off = o2 := by injection hab with hab; injection hab with e1 e2; exact ⟨e1, e2⟩
          have E0 := Lib.hid (show wr.cell? ⟨b, off + m * 3, none⟩ = some (.string yn) from hcy 0 _ rfl)
          have E1 := Lib.hid (show wr.cell? ⟨b, off + (m + 1) * 3, none⟩ = some (.string xn) from XC.out 0 _ rfl)
          rw [if_neg (by omega), Nat.add_sub_cancel, hy] at hnx
          obtain ⟨bv, hbv⟩ : ∃ v, Op.bytesLess yn.toList xn.toList = v := ⟨_, rfl⟩
          have hnx2 : chkS none (L.take (m + 1 + 1)) = bv := by rw [hnx]; show (true && Op.bytesLess yn.toList xn.toList) = bv; rw [hbv]; rfl
          have hwr : IntKind.i64.wrap (m : Int) = (m : Int) := by rw [IntKind.wrap_i64]; omega
          have g3 : (0 : Int) ≤ (m : Int) := by omega
          have g4 : (m : Int) < (n : Int) := by omega
          have g5 : (0 : Int) < ((m + 1 : Nat) : Int) := by omega
          clear hnx hcy hy hab
          rcases bv with _ | _
          · have HF := Lib.hid (hbad hnx2)
            clear hnx2 hbad
            go_wp2_with fail
            refine region_h (fun v => Below wr.heap.size wr v) (by kernel_rfl) (by kernel_rfl) (Below.refl _ _).drew ?_
            obtain ⟨wd, hwd⟩ : ∃ wd, wr.drew = wd := ⟨_, rfl⟩
            have D0 : Hid (Below wr.heap.size wr wd) := Lib.hid (by rw [← hwd]; exact (Below.refl _ _).drew)
            rw [hwd]
            clear hwd
            (refine h_read 0 rfl (by kernel_rfl) (by kernel_rfl) (h_free rfl) ?_ ?_ ?_; rotate_left; (focus (intro v hv; go_simp; rfl)); go_simp)
            (refine h_read 1 rfl (by kernel_rfl) (by kernel_rfl) (h_free rfl) ?_ ?_ ?_; rotate_left; (focus (intro v hv; go_simp; rfl)); go_simp)
            (refine h_read 2 rfl (by kernel_rfl) (by kernel_rfl) (h_free rfl) ?_ ?_ ?_; rotate_left; (focus (intro v hv; go_simp; rfl)); go_simp)
            (refine h_read 3 rfl (by kernel_rfl) (by kernel_rfl) (h_free rfl) ?_ ?_ ?_; rotate_left; (focus (intro v hv; refine run_cells 24 (.tmp 12) ?_ b (off + (m + 1) * 3) ?_ [.string xn, .int .i64 xr, .int .i64 xw] _ (fun j' u hj => by rw [hv.cell (p := ⟨b, off + (m + 1) * 3 + j', none⟩) (World.block_lt_of_cell? wr _ (XC.out j' u hj))]; exact XC.out j' u hj) Try.underlying24 rfl sp_size; (focus rfl); go_simp)); go_simp)
            (refine h_call 4 rfl (by kernel_rfl) (h_free rfl) 75 ?_ ?_ ?_; rotate_left; (focus (go_simp; rfl)))
            refine (zone ⟨xn, xr, xw⟩ wd FX.out).mono ?_
            rw [HOK.out]
            rintro x w5 ⟨rfl, hb5⟩
            have J5 := Lib.hid (D0.out.trans (hb5.mono D0.out.size))
            clear hb5
            refine ⟨_, rfl, J5.out, ?_⟩
            go_simp
            (refine h_read 5 rfl (by kernel_rfl) (by kernel_rfl) (h_free rfl) ?_ ?_ ?_; rotate_left; (focus (intro v hv; go_simp; rfl)); go_simp)
            (refine h_read 6 rfl (by kernel_rfl) (by kernel_rfl) (h_free rfl) ?_ ?_ ?_; rotate_left; (focus (intro v hv; go_simp; rfl)); go_simp)
            (refine h_read 7 rfl (by kernel_rfl) (by kernel_rfl) ?_ ?_ ?_ ?_; (focus (go_simp; done)); rotate_left; (focus (intro v hv; go_simp; rfl)); go_simp)
            (refine h_read 8 rfl (by kernel_rfl) (by kernel_rfl) ?_ ?_ ?_ ?_; (focus (go_simp; done)); rotate_left; (focus (intro v hv; go_simp; rfl)); go_simp)
            (refine h_read 9 rfl (by kernel_rfl) (by kernel_rfl) ?_ ?_ ?_ ?_; (focus (go_simp; done)); rotate_left; (focus (intro v hv; go_simp; rfl)); go_simp)
            (refine h_read 10 rfl (by kernel_rfl) (by kernel_rfl) ?_ ?_ ?_ ?_; (focus (go_simp; done)); rotate_left; (focus (intro v hv; go_simp; rfl)); go_simp)
            (refine h_read 11 rfl (by kernel_rfl) (by kernel_rfl) ?_ ?_ ?_ ?_; (focus (go_simp; done)); rotate_left; (focus (intro v hv; go_simp; rfl)); go_simp)
            (refine h_read 12 rfl (by kernel_rfl) (by kernel_rfl) ?_ ?_ ?_ ?_; (focus (go_simp; done)); rotate_left; (focus (intro v hv; go_simp; rfl)); go_simp)
            (refine h_read 13 rfl (by kernel_rfl) (by kernel_rfl) ?_ ?_ ?_ ?_; (focus (go_simp; done)); rotate_left; (focus (intro v hv; go_simp; rfl)); go_simp)
            (refine h_read 14 rfl (by kernel_rfl) (by kernel_rfl) ?_ ?_ ?_ ?_; (focus (go_simp; done)); rotate_left; (focus (intro v hv; go_simp; rfl)); go_simp)
            (refine h_read 15 rfl (by kernel_rfl) (by kernel_rfl) ?_ ?_ ?_ ?_; (focus (go_simp; done)); rotate_left; (focus (intro v hv; have q0 := (hv.cell (p := ⟨b, off + m * 3, none⟩) (World.block_lt_of_cell? wr _ E0.out)).trans E0.out; have q1 := (hv.cell (p := ⟨b, off + (m + 1) * 3, none⟩) (World.block_lt_of_cell? wr _ E1.out)).trans E1.out; go_simp; rfl)); go_simp)
            (refine h_read 16 rfl (by kernel_rfl) (by kernel_rfl) ?_ ?_ ?_ ?_; (focus (go_simp; done)); rotate_left; (focus (intro v hv; go_simp; rfl)); go_simp)
            (refine h_read 17 rfl (by kernel_rfl) (by kernel_rfl) ?_ ?_ ?_ ?_; (focus (go_simp; done)); rotate_left; (focus (intro v hv; go_simp; rfl)); go_simp)
            (refine h_read 18 rfl (by kernel_rfl) (by kernel_rfl) ?_ ?_ ?_ ?_; (focus (go_simp; done)); rotate_left; (focus (intro v hv; go_simp; rfl)); go_simp)
            (refine h_read 19 rfl (by kernel_rfl) (by kernel_rfl) ?_ ?_ ?_ ?_; (focus (go_simp; done)); rotate_left; (focus (intro v hv; go_simp; rfl)); go_simp)
            (refine h_read 20 rfl (by kernel_rfl) (by kernel_rfl) ?_ ?_ ?_ ?_; (focus (go_simp; done)); rotate_left; (focus (intro v hv; have q0 := (hv.cell (p := ⟨b, off + m * 3, none⟩) (World.block_lt_of_cell? wr _ E0.out)).trans E0.out; have q1 := (hv.cell (p := ⟨b, off + (m + 1) * 3, none⟩) (World.block_lt_of_cell? wr _ E1.out)).trans E1.out; go_simp; rfl)); go_simp)
            (refine h_read 21 rfl (by kernel_rfl) (by kernel_rfl) ?_ ?_ ?_ ?_; (focus (go_simp; done)); rotate_left; (focus (intro v hv; go_simp; rfl)); go_simp)
            (refine h_read 22 rfl (by kernel_rfl) (by kernel_rfl) ?_ ?_ ?_ ?_; (focus (go_simp; done)); rotate_left; (focus (intro v hv; go_simp; rfl)); go_simp)
            (refine h_read 23 rfl (by kernel_rfl) (by kernel_rfl) (h_free rfl) ?_ ?_ ?_; rotate_left; (focus (intro v hv; go_simp; rfl)); go_simp)
            refine h_done (by kernel_rfl) ?_
            go_wp2_with fail
            go_ret
            exact ⟨one (vbool (by rw [HF.out])), B.out.trans (J5.out.mono B.out.size)⟩
          · have HN := Lib.hid hnx2
            clear hnx2 hbad
            go_wp2_with fail
            refine region_h (fun v => Below wr.heap.size wr v) (by kernel_rfl) (by kernel_rfl) (Below.refl _ _).drew ?_
            obtain ⟨wd, hwd⟩ : ∃ wd, wr.drew = wd := ⟨_, rfl⟩
            have D0 : Hid (Below wr.heap.size wr wd) := Lib.hid (by rw [← hwd]; exact (Below.refl _ _).drew)
            rw [hwd]
            clear hwd
            (refine h_read 0 rfl (by kernel_rfl) (by kernel_rfl) (h_free rfl) ?_ ?_ ?_; rotate_left; (focus (intro v hv; go_simp; rfl)); go_simp)
            (refine h_read 1 rfl (by kernel_rfl) (by kernel_rfl) (h_free rfl) ?_ ?_ ?_; rotate_left; (focus (intro v hv; go_simp; rfl)); go_simp)
            (refine h_read 2 rfl (by kernel_rfl) (by kernel_rfl) (h_free rfl) ?_ ?_ ?_; rotate_left; (focus (intro v hv; go_simp; rfl)); go_simp)
            (refine h_read 3 rfl (by kernel_rfl) (by kernel_rfl) (h_free rfl) ?_ ?_ ?_; rotate_left; (focus (intro v hv; refine run_cells 24 (.tmp 12) ?_ b (off + (m + 1) * 3) ?_ [.string xn, .int .i64 xr, .int .i64 xw] _ (fun j' u hj => by rw [hv.cell (p := ⟨b, off + (m + 1) * 3 + j', none⟩) (World.block_lt_of_cell? wr _ (XC.out j' u hj))]; exact XC.out j' u hj) Try.underlying24 rfl sp_size; (focus rfl); go_simp)); go_simp)
            (refine h_call 4 rfl (by kernel_rfl) (h_free rfl) 75 ?_ ?_ ?_; rotate_left; (focus (go_simp; rfl)))
            refine (zone ⟨xn, xr, xw⟩ wd FX.out).mono ?_
            rw [HOK.out]
            rintro x w5 ⟨rfl, hb5⟩
            have J5 := Lib.hid (D0.out.trans (hb5.mono D0.out.size))
            clear hb5
            refine ⟨_, rfl, J5.out, ?_⟩
            go_simp
            (refine h_read 5 rfl (by kernel_rfl) (by kernel_rfl) (h_free rfl) ?_ ?_ ?_; rotate_left; (focus (intro v hv; go_simp; rfl)); go_simp)
            (refine h_read 6 rfl (by kernel_rfl) (by kernel_rfl) (h_free rfl) ?_ ?_ ?_; rotate_left; (focus (intro v hv; go_simp; rfl)); go_simp)
            (refine h_read 7 rfl (by kernel_rfl) (by kernel_rfl) ?_ ?_ ?_ ?_; (focus (go_simp; done)); rotate_left; (focus (intro v hv; go_simp; rfl)); go_simp)
            (refine h_read 8 rfl (by kernel_rfl) (by kernel_rfl) ?_ ?_ ?_ ?_; (focus (go_simp; done)); rotate_left; (focus (intro v hv; go_simp; rfl)); go_simp)
            (refine h_read 9 rfl (by kernel_rfl) (by kernel_rfl) ?_ ?_ ?_ ?_; (focus (go_simp; done)); rotate_left; (focus (intro v hv; go_simp; rfl)); go_simp)
            (refine h_read 10 rfl (by kernel_rfl) (by kernel_rfl) ?_ ?_ ?_ ?_; (focus (go_simp; done)); rotate_left; (focus (intro v hv; go_simp; rfl)); go_simp)
            (refine h_read 11 rfl (by kernel_rfl) (by kernel_rfl) ?_ ?_ ?_ ?_; (focus (go_simp; done)); rotate_left; (focus (intro v hv; go_simp; rfl)); go_simp)
            (refine h_read 12 rfl (by kernel_rfl) (by kernel_rfl) ?_ ?_ ?_ ?_; (focus (go_simp; done)); rotate_left; (focus (intro v hv; go_simp; rfl)); go_simp)
            (refine h_read 13 rfl (by kernel_rfl) (by kernel_rfl) ?_ ?_ ?_ ?_; (focus (go_simp; done)); rotate_left; (focus (intro v hv; go_simp; rfl)); go_simp)
            (refine h_read 14 rfl (by kernel_rfl) (by kernel_rfl) ?_ ?_ ?_ ?_; (focus (go_simp; done)); rotate_left; (focus (intro v hv; go_simp; rfl)); go_simp)
            (refine h_read 15 rfl (by kernel_rfl) (by kernel_rfl) ?_ ?_ ?_ ?_; (focus (go_simp; done)); rotate_left; (focus (intro v hv; have q0 := (hv.cell (p := ⟨b, off + m * 3, none⟩) (World.block_lt_of_cell? wr _ E0.out)).trans E0.out; have q1 := (hv.cell (p := ⟨b, off + (m + 1) * 3, none⟩) (World.block_lt_of_cell? wr _ E1.out)).trans E1.out; go_simp; rfl)); go_simp)
            (refine h_read 16 rfl (by kernel_rfl) (by kernel_rfl) ?_ ?_ ?_ ?_; (focus (go_simp; done)); rotate_left; (focus (intro v hv; go_simp; rfl)); go_simp)
            (refine h_read 17 rfl (by kernel_rfl) (by kernel_rfl) ?_ ?_ ?_ ?_; (focus (go_simp; done)); rotate_left; (focus (intro v hv; go_simp; rfl)); go_simp)
            (refine h_read 18 rfl (by kernel_rfl) (by kernel_rfl) ?_ ?_ ?_ ?_; (focus (go_simp; done)); rotate_left; (focus (intro v hv; go_simp; rfl)); go_simp)
            (refine h_read 19 rfl (by kernel_rfl) (by kernel_rfl) ?_ ?_ ?_ ?_; (focus (go_simp; done)); rotate_left; (focus (intro v hv; go_simp; rfl)); go_simp)
            (refine h_read 20 rfl (by kernel_rfl) (by kernel_rfl) ?_ ?_ ?_ ?_; (focus (go_simp; done)); rotate_left; (focus (intro v hv; have q0 := (hv.cell (p := ⟨b, off + m * 3, none⟩) (World.block_lt_of_cell? wr _ E0.out)).trans E0.out; have q1 := (hv.cell (p := ⟨b, off + (m + 1) * 3, none⟩) (World.block_lt_of_cell? wr _ E1.out)).trans E1.out; go_simp; rfl)); go_simp)
            (refine h_read 21 rfl (by kernel_rfl) (by kernel_rfl) ?_ ?_ ?_ ?_; (focus (go_simp; done)); rotate_left; (focus (intro v hv; go_simp; rfl)); go_simp)
            (refine h_read 22 rfl (by kernel_rfl) (by kernel_rfl) ?_ ?_ ?_ ?_; (focus (go_simp; done)); rotate_left; (focus (intro v hv; go_simp; rfl)); go_simp)
            (refine h_read 23 rfl (by kernel_rfl) (by kernel_rfl) (h_free rfl) ?_ ?_ ?_; rotate_left; (focus (intro v hv; go_simp; rfl)); go_simp)
            refine h_done (by kernel_rfl) ?_
            go_wp2_with fail
            go_roundw
            case rel => exact ⟨m + 1 + 1, vint (by omega), by omega, HN, Lib.hid (B.out.trans (J5.out.mono B.out.size))⟩
            case measure => simp [intOf]; omega
    · obtain rfl : n = k := by omega
      have hp := P.out
      rw [List.take_of_length_le (by rw [HL.out]; exact Nat.le_refl _)] at hp
      have HF := Lib.hid (show V = decide ((n : Int) ≤ 6) by
        rw [← HV.out]; unfold checkV; rw [hp, HL.out, Bool.true_and, decide_eq_decide]; omega)
      clear hp
      go_wp2_with fail
      go_ret
      exact ⟨one (vbool (by rw [HF.out])), B.out⟩
end Go.Proofs.Ytiopcojkdglapaa.W
