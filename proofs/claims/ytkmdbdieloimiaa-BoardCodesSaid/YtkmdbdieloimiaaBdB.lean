/- LAYER 25 (board): cmp.Compare; lists.Rise of shares. -/
import Derived.Test.YtkmdbdieloimiaaBdO
import Derived.Test.YtkmdbdieloimiaaTail
set_option linter.unusedSimpArgs false
set_option linter.unusedVariables false
namespace Go.Proofs.Ytkmdbdieloimiaa.W
open Go Go.ChangeShapes Go.WideShapes Go.ChangeAt Go.RowKit
open Go.Proofs.Ytkmdbdieloimiaa.S

theorem pnan (x : Int) (w : World) : Calls Try.prog 72 #[.int .i64 x] w fun e w' => e = .returned (.bool false) ∧ w = w' := by
  go_enter Try.func72, Try.ntmps72
  go_wp2
  all_goals (go_ret; exact ⟨one (vbool (by simp)), rfl⟩)
def cmpI (x y : Int) : Int := if x < y then -1 else if y < x then 1 else 0
set_option maxHeartbeats 1000000 in
theorem pcmp (x y : Int) (w : World) : Calls Try.prog 61 #[.int .i64 x, .int .i64 y] w fun e w' => e = .returned (.int .i64 (cmpI x y)) ∧ w = w' := by
  unfold cmpI
  by_cases h1 : x < y
  · rw [if_pos h1]
    go_enter Try.func61, Try.ntmps61
    go_wp2_with (first
      | (go_at_call 72; (with_reducible refine (pnan x _).mono ?_); rintro e w' ⟨rfl, rfl⟩)
      | (go_at_call 72; (with_reducible refine (pnan y _).mono ?_); rintro e w' ⟨rfl, rfl⟩))
    go_ret
    exact ⟨rfl, rfl⟩
  · rw [if_neg h1]
    by_cases h2 : y < x
    · rw [if_pos h2]
      go_enter Try.func61, Try.ntmps61
      go_wp2_with (first
        | (go_at_call 72; (with_reducible refine (pnan x _).mono ?_); rintro e w' ⟨rfl, rfl⟩)
        | (go_at_call 72; (with_reducible refine (pnan y _).mono ?_); rintro e w' ⟨rfl, rfl⟩))
      go_ret
      exact ⟨rfl, rfl⟩
    · rw [if_neg h2]
      go_enter Try.func61, Try.ntmps61
      go_wp2_with (first
        | (go_at_call 72; (with_reducible refine (pnan x _).mono ?_); rintro e w' ⟨rfl, rfl⟩)
        | (go_at_call 72; (with_reducible refine (pnan y _).mono ?_); rintro e w' ⟨rfl, rfl⟩))
      go_ret
      exact ⟨rfl, rfl⟩
set_option maxHeartbeats 1000000 in
theorem pbylane (s t : Sh) (w : World) : Calls Try.prog 37 #[.agg s.cells.toArray, .agg t.cells.toArray] w fun e w' => e = .returned (.int .i64 (cmpI s.ln t.ln)) ∧ Below w.heap.size w w' := by
  obtain ⟨x1, x2⟩ := s
  obtain ⟨y1, y2⟩ := t
  go_enter Try.func37, Try.ntmps37
  go_wp2_with (first
    | ((with_reducible refine box_row (o := ⟨some 2, _, _, _, _, _⟩) rfl _ _ rfl [.int .i64 x1, .int .i64 x2] rfl ?_); intro w1 hr hb hz; have R1 := Lib.hid hr; have B1 := Lib.hid hb; clear hr hb hz)
    | ((with_reducible refine box_row (o := ⟨some 3, _, _, _, _, _⟩) rfl _ _ rfl [.int .i64 y1, .int .i64 y2] rfl ?_); intro w2 hr hb hz; obtain ⟨c0, c1⟩ := (R1.out.below hb R1.out.lt).k2; obtain ⟨d0, d1⟩ := hr.k2; have B2 := Lib.hid (B1.out.trans (hb.mono B1.out.size)); clear hr hb hz c1 d1)
    | (go_at_call 61; (with_reducible refine (pcmp x1 y1 _).mono ?_); rintro e w' ⟨rfl, rfl⟩))
  go_ret
  exact ⟨rfl, B2.out⟩
theorem riseS_snoc : ∀ (L : List Sh) (p : Option Int) (s : Sh), riseS p (L ++ [s]) = (riseS p L && behS ((L.getLast?.map (·.ln)).or p) s)
  | [], p, s => by simp [riseS]
  | x :: L, p, s => by
    rw [List.cons_append]
    simp only [riseS]
    rw [riseS_snoc L (some x.ln) s]
    have : ((x :: L).getLast?.map (·.ln)).or p = (L.getLast?.map (·.ln)).or (some x.ln) := by
      cases L with
      | nil => simp
      | cons y L => simp [List.getLast?_cons]
    rw [this]
    simp only [Bool.and_assoc]
theorem riseS_next (L : List Sh) (k : Nat) (x y : Sh) (hx : L[k]? = some x) (hy : L[k + 1]? = some y) : riseS none (L.take (k + 1 + 1)) = (riseS none (L.take (k + 1)) && decide (x.ln < y.ln)) := by
  have hk : k + 1 < L.length := (List.getElem?_eq_some_iff.1 hy).1
  have h1 : L.take (k + 1 + 1) = L.take (k + 1) ++ [y] := by
    rw [List.take_succ_eq_append_getElem hk]
    rw [List.getElem?_eq_getElem hk] at hy
    rw [Option.some.inj hy]
  rw [h1, riseS_snoc]
  have : (L.take (k + 1)).getLast? = L[k]? := by
    rw [List.getLast?_eq_getElem?, List.length_take, Nat.min_eq_left (by omega)]
    simp
  rw [this, hx]
  rfl
theorem riseS_take : ∀ (L : List Sh) (p : Option Int) (k : Nat), riseS p L = true → riseS p (L.take k) = true
  | [], _, _, _ => by simp [riseS]
  | s :: L, p, 0, _ => by simp [riseS]
  | s :: L, p, k + 1, h => by
    simp only [riseS, Bool.and_eq_true, List.take_succ_cons] at h ⊢
    exact ⟨h.1, riseS_take L _ k h.2⟩
theorem cmp_ge (x y : Int) (h : ¬ x < y) : (0 : Int) ≤ cmpI x y := by unfold cmpI; split; omega; split <;> omega
theorem cmp_lt (x y : Int) (h : x < y) : cmpI x y = -1 := by unfold cmpI; rw [if_pos h]
set_option maxRecDepth 100000 in
set_option maxHeartbeats 8000000 in
theorem shrise (a : Option Addr) (n c : Nat) (L : List Sh) (w : World) (h : Ls shE w a n c L) :
    Calls Try.prog 36 #[.slice a n c, .func (.func 37) #[] #[]] w fun x w' => x = .returned (.bool (riseS none L)) ∧ Below w.heap.size w w' := by
  have H := Lib.hid h
  have HL := Lib.hid h.hlen
  have hm := h.hmax
  have hle := h.hle
  obtain ⟨V, hV⟩ : ∃ V, riseS none L = V := ⟨_, rfl⟩
  rw [hV]
  have HV := Lib.hid hV
  clear h hV
  go_enter Try.func36, Try.ntmps36
  go_wp2_with fail
  go_loopw [5] (fun i wr => ∃ k : Nat, i = .int .i64 ((k : Int) + 1) ∧ (k + 1 ≤ n ∨ n = 0 ∧ k = 0) ∧ Hid (riseS none (L.take (k + 1)) = true) ∧ Hid (Below w.heap.size w wr)) (fun i _ => n - (intOf i).toNat)
  case atStart =>
    refine ⟨0, rfl, by omega, Lib.hid ?_, Lib.hid (Below.refl _ _)⟩
    cases L with
    | nil => rfl
    | cons s L => simp [riseS, behS]
  case round =>
    obtain ⟨k, rfl, hk, P, B⟩ := hrel
    by_cases hlt : k + 1 < n
    · obtain ⟨b, off, y, rfl, hy, hcy, -⟩ := H.out.at shOk B.out (k + 1) hlt
      obtain ⟨b2, o2, x, hab, hx, hcx, -⟩ := H.out.at shOk B.out k (by omega)
      obtain ⟨rfl, rfl⟩ : b = b2 ∧ off = o2 := by injection hab with hab; injection hab with e1 e2; exact ⟨e1, e2⟩
      have hnx := riseS_next L k x y hx hy
      rw [P.out, Bool.true_and] at hnx
      have HK := Lib.hid (fun w => pbylane x y w)
      obtain ⟨x1, x2⟩ := x
      obtain ⟨y1, y2⟩ := y
      dsimp only at hnx HK
      have XC := Lib.hid hcx
      have YC := Lib.hid hcy
      have g1 : (0 : Int) ≤ (k : Int) := by omega
      have g2 : (k : Int) < (n : Int) := by omega
      have g3 : (0 : Int) ≤ (k : Int) + 1 := by omega
      have g4 : (k : Int) + 1 < (n : Int) := by omega
      have hwr : IntKind.i64.wrap (k : Int) = (k : Int) := by rw [IntKind.wrap_i64]; omega
      have hnt : (((k : Nat) : Int) + 1).toNat = k + 1 := by omega
      clear hcx hcy hx hy hab hk
      by_cases hlt2 : x1 < y1
      · have HN := Lib.hid (show riseS none (L.take (k + 1 + 1)) = true by rw [hnx]; simp [hlt2])
        rw [cmp_lt _ _ hlt2] at HK
        clear hnx
        go_wp2_with fail
        refine region_h (fun v => Below wr.heap.size wr v) (by kernel_rfl) (by kernel_rfl) (Below.refl _ _).drew ?_
        obtain ⟨wd, hwd⟩ : ∃ wd, wr.drew = wd := ⟨_, rfl⟩
        have D0 : Hid (Below wr.heap.size wr wd) := Lib.hid (by rw [← hwd]; exact (Below.refl _ _).drew)
        rw [hwd]
        clear hwd
        (refine h_read 0 rfl (by kernel_rfl) (by kernel_rfl) (h_free rfl) ?_ ?_ ?_; rotate_left; (focus (intro v hv; go_simp; rfl)); go_simp)
        (refine h_read 1 rfl (by kernel_rfl) (by kernel_rfl) (h_free rfl) ?_ ?_ ?_; rotate_left; (focus (intro v hv; go_simp; rfl)); go_simp)
        (refine h_read 2 rfl (by kernel_rfl) (by kernel_rfl) (h_free rfl) ?_ ?_ ?_; rotate_left; (focus (intro v hv; go_simp; rfl)); go_simp)
        (refine h_read 3 rfl (by kernel_rfl) (by kernel_rfl) (h_free rfl) ?_ ?_ ?_; rotate_left; (focus (intro v hv; go_simp; rfl)); go_simp)
        (refine h_read 4 rfl (by kernel_rfl) (by kernel_rfl) (h_free rfl) ?_ ?_ ?_; rotate_left; (focus (intro v hv; go_simp; rfl)); go_simp)
        (refine h_read 5 rfl (by kernel_rfl) (by kernel_rfl) (h_free rfl) ?_ ?_ ?_; rotate_left; (focus (intro v hv; refine run_cells 58 (.tmp 16) ?_ b (off + k * 2) ?_ [.int .i64 x1, .int .i64 x2] _ (fun j' u hj => by rw [hv.cell (p := ⟨b, off + k * 2 + j', none⟩) (World.block_lt_of_cell? wr _ (XC.out j' u hj))]; exact XC.out j' u hj) Try.underlying58 rfl sh_size; (focus rfl); go_simp)); go_simp)
        (refine h_read 6 rfl (by kernel_rfl) (by kernel_rfl) (h_free rfl) ?_ ?_ ?_; rotate_left; (focus (intro v hv; go_simp; rfl)); go_simp)
        (refine h_read 7 rfl (by kernel_rfl) (by kernel_rfl) (h_free rfl) ?_ ?_ ?_; rotate_left; (focus (intro v hv; go_simp; rfl)); go_simp)
        (refine h_read 8 rfl (by kernel_rfl) (by kernel_rfl) (h_free rfl) ?_ ?_ ?_; rotate_left; (focus (intro v hv; go_simp; rfl)); go_simp)
        (refine h_read 9 rfl (by kernel_rfl) (by kernel_rfl) (h_free rfl) ?_ ?_ ?_; rotate_left; (focus (intro v hv; refine run_cells 58 (.tmp 20) ?_ b (off + (k + 1) * 2) ?_ [.int .i64 y1, .int .i64 y2] _ (fun j' u hj => by rw [hv.cell (p := ⟨b, off + (k + 1) * 2 + j', none⟩) (World.block_lt_of_cell? wr _ (YC.out j' u hj))]; exact YC.out j' u hj) Try.underlying58 rfl sh_size; (focus rfl); go_simp)); go_simp)
        (refine h_call 10 rfl (by kernel_rfl) (h_free rfl) 37 ?_ ?_ ?_; rotate_left; (focus (go_simp; rfl)))
        refine (HK.out wd).mono ?_
        rintro x w5 ⟨rfl, hb5⟩
        have J5 := Lib.hid (D0.out.trans (hb5.mono D0.out.size))
        clear hb5
        refine ⟨_, rfl, J5.out, ?_⟩
        go_simp
        (refine h_read 11 rfl (by kernel_rfl) (by kernel_rfl) (h_free rfl) ?_ ?_ ?_; rotate_left; (focus (intro v hv; go_simp; rfl)); go_simp)
        refine h_done (by kernel_rfl) ?_
        go_wp2_with fail
        go_roundw
        case rel => exact ⟨k + 1, vint (by omega), by omega, HN, Lib.hid (B.out.trans (J5.out.mono B.out.size))⟩
        case measure => simp [intOf]; omega
      · have HF := Lib.hid (show V = false by
          rw [← HV.out]
          cases hc : riseS none L with
          | false => rfl
          | true =>
            have h1 := riseS_take L none (k + 1 + 1) hc
            rw [hnx] at h1
            simp [hlt2] at h1)
        have hcp := cmp_ge x1 y1 hlt2
        obtain ⟨cv, hcv⟩ : ∃ z, cmpI x1 y1 = z := ⟨_, rfl⟩
        rw [hcv] at HK hcp
        clear hnx hcv
        go_wp2_with fail
        refine region_h (fun v => Below wr.heap.size wr v) (by kernel_rfl) (by kernel_rfl) (Below.refl _ _).drew ?_
        obtain ⟨wd, hwd⟩ : ∃ wd, wr.drew = wd := ⟨_, rfl⟩
        have D0 : Hid (Below wr.heap.size wr wd) := Lib.hid (by rw [← hwd]; exact (Below.refl _ _).drew)
        rw [hwd]
        clear hwd
        (refine h_read 0 rfl (by kernel_rfl) (by kernel_rfl) (h_free rfl) ?_ ?_ ?_; rotate_left; (focus (intro v hv; go_simp; rfl)); go_simp)
        (refine h_read 1 rfl (by kernel_rfl) (by kernel_rfl) (h_free rfl) ?_ ?_ ?_; rotate_left; (focus (intro v hv; go_simp; rfl)); go_simp)
        (refine h_read 2 rfl (by kernel_rfl) (by kernel_rfl) (h_free rfl) ?_ ?_ ?_; rotate_left; (focus (intro v hv; go_simp; rfl)); go_simp)
        (refine h_read 3 rfl (by kernel_rfl) (by kernel_rfl) (h_free rfl) ?_ ?_ ?_; rotate_left; (focus (intro v hv; go_simp; rfl)); go_simp)
        (refine h_read 4 rfl (by kernel_rfl) (by kernel_rfl) (h_free rfl) ?_ ?_ ?_; rotate_left; (focus (intro v hv; go_simp; rfl)); go_simp)
        (refine h_read 5 rfl (by kernel_rfl) (by kernel_rfl) (h_free rfl) ?_ ?_ ?_; rotate_left; (focus (intro v hv; refine run_cells 58 (.tmp 16) ?_ b (off + k * 2) ?_ [.int .i64 x1, .int .i64 x2] _ (fun j' u hj => by rw [hv.cell (p := ⟨b, off + k * 2 + j', none⟩) (World.block_lt_of_cell? wr _ (XC.out j' u hj))]; exact XC.out j' u hj) Try.underlying58 rfl sh_size; (focus rfl); go_simp)); go_simp)
        (refine h_read 6 rfl (by kernel_rfl) (by kernel_rfl) (h_free rfl) ?_ ?_ ?_; rotate_left; (focus (intro v hv; go_simp; rfl)); go_simp)
        (refine h_read 7 rfl (by kernel_rfl) (by kernel_rfl) (h_free rfl) ?_ ?_ ?_; rotate_left; (focus (intro v hv; go_simp; rfl)); go_simp)
        (refine h_read 8 rfl (by kernel_rfl) (by kernel_rfl) (h_free rfl) ?_ ?_ ?_; rotate_left; (focus (intro v hv; go_simp; rfl)); go_simp)
        (refine h_read 9 rfl (by kernel_rfl) (by kernel_rfl) (h_free rfl) ?_ ?_ ?_; rotate_left; (focus (intro v hv; refine run_cells 58 (.tmp 20) ?_ b (off + (k + 1) * 2) ?_ [.int .i64 y1, .int .i64 y2] _ (fun j' u hj => by rw [hv.cell (p := ⟨b, off + (k + 1) * 2 + j', none⟩) (World.block_lt_of_cell? wr _ (YC.out j' u hj))]; exact YC.out j' u hj) Try.underlying58 rfl sh_size; (focus rfl); go_simp)); go_simp)
        (refine h_call 10 rfl (by kernel_rfl) (h_free rfl) 37 ?_ ?_ ?_; rotate_left; (focus (go_simp; rfl)))
        refine (HK.out wd).mono ?_
        rintro x w5 ⟨rfl, hb5⟩
        have J5 := Lib.hid (D0.out.trans (hb5.mono D0.out.size))
        clear hb5
        refine ⟨_, rfl, J5.out, ?_⟩
        go_simp
        (refine h_read 11 rfl (by kernel_rfl) (by kernel_rfl) (h_free rfl) ?_ ?_ ?_; rotate_left; (focus (intro v hv; go_simp; rfl)); go_simp)
        refine h_done (by kernel_rfl) ?_
        go_wp2_with fail
        go_ret
        exact ⟨one (vbool (by rw [HF.out])), B.out.trans (J5.out.mono B.out.size)⟩
    · have HT := Lib.hid (show V = true by
        rw [← HV.out, ← P.out, List.take_of_length_le (by rw [HL.out]; omega)])
      have g5 : ¬ ((k : Int) + 1 < (n : Int)) := by omega
      go_wp2_with fail
      go_ret
      exact ⟨one (vbool (by rw [HT.out])), B.out⟩
end Go.Proofs.Ytkmdbdieloimiaa.W
