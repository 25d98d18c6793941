/- LAYER 20 (manifest): lists.Rise, Check of the program; copies: slices.Clone of pieces and of snapshots, own. -/
import Derived.Test.YtdinfpjckmgihaaMfA
set_option linter.unusedSimpArgs false
set_option linter.unusedVariables false
namespace Go.Proofs.Ytdinfpjckmgihaa.W
open Go Go.ChangeShapes Go.WideShapes Go.ChangeAt Go.RowKit
open Go.Proofs.Ytdinfpjckmgihaa.P (enc dec)
open Go.Proofs.Ytdinfpjckmgihaa.S

/-- a slice of snapshots reads as the list L -/
def SnL (w : World) (a : Option Addr) (n c : Nat) (L : List Sn) : Prop := ∃ X : List SnX, Ls snE w a n c X ∧ X.map (·.s) = L
theorem SnL.mono {w w' : World} {a : Option Addr} {n c : Nat} {L : List Sn} (h : SnL w a n c L) (hb : Below w.heap.size w w') : SnL w' a n c L := by
  obtain ⟨X, hX, e⟩ := h
  exact ⟨X, hX.mono snOk hb, e⟩
-- ---- Rise
def riseM : Option Sn → List Sn → Bool
  | _, [] => true
  | p, s :: L => behM p s && riseM (some s) L
theorem chkM_split : ∀ (L : List Sn) (p : Option Sn), chkM p L = (riseM p L && L.all okM)
  | [], _ => rfl
  | s :: L, p => by
    simp only [chkM, riseM, List.all_cons]
    rw [chkM_split L (some s)]
    cases okM s <;> cases behM p s <;> cases riseM (some s) L <;> simp
theorem riseM_snoc : ∀ (L : List Sn) (p : Option Sn) (s : Sn), riseM p (L ++ [s]) = (riseM p L && behM (L.getLast?.or p) s)
  | [], p, s => by simp [riseM]
  | x :: L, p, s => by
    rw [List.cons_append]
    simp only [riseM]
    rw [riseM_snoc L (some x) s]
    have : (x :: L).getLast?.or p = L.getLast?.or (some x) := by
      cases L with
      | nil => simp
      | cons y L => simp [List.getLast?_cons]
    rw [this]
    simp only [Bool.and_assoc]
theorem riseM_next (L : List Sn) (k : Nat) (x y : Sn) (hx : L[k]? = some x) (hy : L[k + 1]? = some y) : riseM none (L.take (k + 1 + 1)) = (riseM none (L.take (k + 1)) && belowM x y) := by
  have hk : k + 1 < L.length := (List.getElem?_eq_some_iff.1 hy).1
  have h1 : L.take (k + 1 + 1) = L.take (k + 1) ++ [y] := by
    rw [List.take_succ_eq_append_getElem hk]
    rw [List.getElem?_eq_getElem hk] at hy
    rw [Option.some.inj hy]
  rw [h1, riseM_snoc]
  have : (L.take (k + 1)).getLast? = L[k]? := by
    rw [List.getLast?_eq_getElem?, List.length_take, Nat.min_eq_left (by omega)]
    simp
  rw [this, hx]
  rfl
theorem riseM_take : ∀ (L : List Sn) (p : Option Sn) (k : Nat), riseM p L = true → riseM p (L.take k) = true
  | [], _, _, _ => by simp [riseM]
  | s :: L, p, 0, _ => by simp [riseM]
  | s :: L, p, k + 1, h => by
    simp only [riseM, Bool.and_eq_true, List.take_succ_cons] at h ⊢
    exact ⟨h.1, riseM_take L _ k h.2⟩
theorem map_at {X : List SnX} {L : List Sn} (e : X.map (·.s) = L) {k : Nat} {x : SnX} (h : X[k]? = some x) : L[k]? = some x.s := by
  rw [← e, List.getElem?_map, h]; rfl
set_option maxRecDepth 100000 in
set_option maxHeartbeats 8000000 in
theorem mrise (a : Option Addr) (n c : Nat) (L : List Sn) (w : World) (h : SnL w a n c L) :
    Calls Try.prog 43 #[.slice a n c, .func (.func 34) #[] #[]] w fun x w' => x = .returned (.bool (riseM none L)) ∧ Below w.heap.size w w' := by
  obtain ⟨X, h, hXL⟩ := h
  have H := Lib.hid h
  have HL := Lib.hid (show L.length = n by rw [← hXL, List.length_map, h.hlen])
  have HXL := Lib.hid hXL
  have hm := h.hmax
  have hle := h.hle
  obtain ⟨V, hV⟩ : ∃ V, riseM none L = V := ⟨_, rfl⟩
  rw [hV]
  have HV := Lib.hid hV
  clear h hV hXL
  go_enter Try.func43, Try.ntmps43
  go_wp2_with fail
  go_loopw [5] (fun i wr => ∃ k : Nat, i = .int .i64 ((k : Int) + 1) ∧ (k + 1 ≤ n ∨ n = 0 ∧ k = 0) ∧ Hid (riseM none (L.take (k + 1)) = true) ∧ Hid (Below w.heap.size w wr)) (fun i _ => n - (intOf i).toNat)
  case atStart =>
    refine ⟨0, rfl, by omega, Lib.hid ?_, Lib.hid (Below.refl _ _)⟩
    cases L with
    | nil => rfl
    | cons s L => simp [riseM, behM]
  case round =>
    obtain ⟨k, rfl, hk, P, B⟩ := hrel
    by_cases hlt : k + 1 < n
    · obtain ⟨b, off, y, rfl, hy, hcy, -⟩ := H.out.at snOk B.out (k + 1) hlt
      obtain ⟨b2, o2, x, hab, hx, hcx, -⟩ := H.out.at snOk B.out k (by omega)
      obtain ⟨rfl, rfl⟩ : b = b2 ∧ off = o2 := by injection hab with hab; injection hab with e1 e2; exact ⟨e1, e2⟩
      have hnx := riseM_next L k x.s y.s (map_at HXL.out hx) (map_at HXL.out hy)
      rw [P.out, Bool.true_and] at hnx
      have HK := Lib.hid (fun w => porder x y w)
      have hoc := ordM_cases x.s y.s
      obtain ⟨ov, hov⟩ : ∃ z, ordM x.s y.s = z := ⟨_, rfl⟩
      rw [hov] at HK hoc
      obtain ⟨⟨xs, xn, xb, xt, xk, xp⟩, xa, xm, xc⟩ := x
      obtain ⟨⟨ys, yn, yb, yt, yk, yp⟩, ya, ym, yc⟩ := y
      have XC := Lib.hid hcx
      have YC := Lib.hid hcy
      have g1 : (0 : Int) ≤ (k : Int) := by omega
      have g2 : (k : Int) < (n : Int) := by omega
      have g3 : (0 : Int) ≤ (k : Int) + 1 := by omega
      have g4 : (k : Int) + 1 < (n : Int) := by omega
      have hwr : IntKind.i64.wrap (k : Int) = (k : Int) := by rw [IntKind.wrap_i64]; omega
      have hnt : (((k : Nat) : Int) + 1).toNat = k + 1 := by omega
      clear hcx hcy hx hy hab hk hov
      by_cases hlt2 : ov = -1
      · have HN := Lib.hid (show riseM none (L.take (k + 1 + 1)) = true by rw [hnx]; rcases hoc with ⟨-, h, -⟩ | ⟨h, -⟩ | ⟨h, -⟩; exact h; omega; omega)
        subst hlt2
        clear hnx hoc
        go_wp2_with fail
        refine region_h (fun v => Below wr.heap.size wr v) (by kernel_rfl) (by kernel_rfl) (Below.refl _ _).drew ?_
        obtain ⟨wd, hwd⟩ : ∃ wd, wr.drew = wd := ⟨_, rfl⟩
        have D0 : Hid (Below wr.heap.size wr wd) := Lib.hid (by rw [← hwd]; exact (Below.refl _ _).drew)
        rw [hwd]
        clear hwd
        (refine h_read 0 rfl (by kernel_rfl) (by kernel_rfl) (h_free rfl) ?_ ?_ ?_; rotate_left; (focus (intro v hv; go_simp; rfl)); go_simp)
        (refine h_read 1 rfl (by kernel_rfl) (by kernel_rfl) (h_free rfl) ?_ ?_ ?_; rotate_left; (focus (intro v hv; go_simp; rfl)); go_simp)
        (refine h_read 2 rfl (by kernel_rfl) (by kernel_rfl) (h_free rfl) ?_ ?_ ?_; rotate_left; (focus (intro v hv; go_simp; rfl)); go_simp)
        (refine h_read 3 rfl (by kernel_rfl) (by kernel_rfl) (h_free rfl) ?_ ?_ ?_; rotate_left; (focus (intro v hv; go_simp; rfl)); go_simp)
        (refine h_read 4 rfl (by kernel_rfl) (by kernel_rfl) (h_free rfl) ?_ ?_ ?_; rotate_left; (focus (intro v hv; go_simp; rfl)); go_simp)
        (refine h_read 5 rfl (by kernel_rfl) (by kernel_rfl) (h_free rfl) ?_ ?_ ?_; rotate_left; (focus (intro v hv; refine run_cells 25 (.tmp 16) ?_ b (off + k * 6) ?_ (snC xs xn xb xt xk xa xm xc) _ (fun j' u hj => by rw [hv.cell (p := ⟨b, off + k * 6 + j', none⟩) (World.block_lt_of_cell? wr _ (XC.out j' u hj))]; exact XC.out j' u hj) Try.underlying25 rfl sn_size; (focus rfl); go_simp)); go_simp)
        (refine h_read 6 rfl (by kernel_rfl) (by kernel_rfl) (h_free rfl) ?_ ?_ ?_; rotate_left; (focus (intro v hv; go_simp; rfl)); go_simp)
        (refine h_read 7 rfl (by kernel_rfl) (by kernel_rfl) (h_free rfl) ?_ ?_ ?_; rotate_left; (focus (intro v hv; go_simp; rfl)); go_simp)
        (refine h_read 8 rfl (by kernel_rfl) (by kernel_rfl) (h_free rfl) ?_ ?_ ?_; rotate_left; (focus (intro v hv; go_simp; rfl)); go_simp)
        (refine h_read 9 rfl (by kernel_rfl) (by kernel_rfl) (h_free rfl) ?_ ?_ ?_; rotate_left; (focus (intro v hv; refine run_cells 25 (.tmp 20) ?_ b (off + (k + 1) * 6) ?_ (snC ys yn yb yt yk ya ym yc) _ (fun j' u hj => by rw [hv.cell (p := ⟨b, off + (k + 1) * 6 + j', none⟩) (World.block_lt_of_cell? wr _ (YC.out j' u hj))]; exact YC.out j' u hj) Try.underlying25 rfl sn_size; (focus rfl); go_simp)); go_simp)
        (refine h_call 10 rfl (by kernel_rfl) (h_free rfl) 34 ?_ ?_ ?_; rotate_left; (focus (go_simp; rfl)))
        refine (HK.out wd).mono ?_
        rintro x w5 ⟨rfl, hb5⟩
        have J5 := Lib.hid (D0.out.trans (hb5.mono D0.out.size))
        clear hb5
        refine ⟨_, rfl, J5.out, ?_⟩
        go_simp
        (refine h_read 11 rfl (by kernel_rfl) (by kernel_rfl) (h_free rfl) ?_ ?_ ?_; rotate_left; (focus (intro v hv; go_simp; rfl)); go_simp)
        refine h_done (by kernel_rfl) ?_
        go_wp2_with fail
        go_roundw
        case rel => exact ⟨k + 1, vint (by omega), by omega, HN, Lib.hid (B.out.trans (J5.out.mono B.out.size))⟩
        case measure => simp [intOf]; omega
      · have HF := Lib.hid (show V = false by
          rw [← HV.out]
          cases hc : riseM none L with
          | false => rfl
          | true =>
            have h1 := riseM_take L none (k + 1 + 1) hc
            rw [hnx] at h1
            rcases hoc with ⟨h, -⟩ | ⟨-, h, -⟩ | ⟨-, h, -⟩
            · exact absurd h hlt2
            · rw [h] at h1; cases h1
            · rw [h] at h1; cases h1)
        have hcp : (0 : Int) ≤ ov := by rcases hoc with ⟨h, -⟩ | ⟨h, -⟩ | ⟨h, -⟩ <;> omega
        clear hnx hoc hlt2
        go_wp2_with fail
        refine region_h (fun v => Below wr.heap.size wr v) (by kernel_rfl) (by kernel_rfl) (Below.refl _ _).drew ?_
        obtain ⟨wd, hwd⟩ : ∃ wd, wr.drew = wd := ⟨_, rfl⟩
        have D0 : Hid (Below wr.heap.size wr wd) := Lib.hid (by rw [← hwd]; exact (Below.refl _ _).drew)
        rw [hwd]
        clear hwd
        (refine h_read 0 rfl (by kernel_rfl) (by kernel_rfl) (h_free rfl) ?_ ?_ ?_; rotate_left; (focus (intro v hv; go_simp; rfl)); go_simp)
        (refine h_read 1 rfl (by kernel_rfl) (by kernel_rfl) (h_free rfl) ?_ ?_ ?_; rotate_left; (focus (intro v hv; go_simp; rfl)); go_simp)
        (refine h_read 2 rfl (by kernel_rfl) (by kernel_rfl) (h_free rfl) ?_ ?_ ?_; rotate_left; (focus (intro v hv; go_simp; rfl)); go_simp)
        (refine h_read 3 rfl (by kernel_rfl) (by kernel_rfl) (h_free rfl) ?_ ?_ ?_; rotate_left; (focus (intro v hv; go_simp; rfl)); go_simp)
        (refine h_read 4 rfl (by kernel_rfl) (by kernel_rfl) (h_free rfl) ?_ ?_ ?_; rotate_left; (focus (intro v hv; go_simp; rfl)); go_simp)
        (refine h_read 5 rfl (by kernel_rfl) (by kernel_rfl) (h_free rfl) ?_ ?_ ?_; rotate_left; (focus (intro v hv; refine run_cells 25 (.tmp 16) ?_ b (off + k * 6) ?_ (snC xs xn xb xt xk xa xm xc) _ (fun j' u hj => by rw [hv.cell (p := ⟨b, off + k * 6 + j', none⟩) (World.block_lt_of_cell? wr _ (XC.out j' u hj))]; exact XC.out j' u hj) Try.underlying25 rfl sn_size; (focus rfl); go_simp)); go_simp)
        (refine h_read 6 rfl (by kernel_rfl) (by kernel_rfl) (h_free rfl) ?_ ?_ ?_; rotate_left; (focus (intro v hv; go_simp; rfl)); go_simp)
        (refine h_read 7 rfl (by kernel_rfl) (by kernel_rfl) (h_free rfl) ?_ ?_ ?_; rotate_left; (focus (intro v hv; go_simp; rfl)); go_simp)
        (refine h_read 8 rfl (by kernel_rfl) (by kernel_rfl) (h_free rfl) ?_ ?_ ?_; rotate_left; (focus (intro v hv; go_simp; rfl)); go_simp)
        (refine h_read 9 rfl (by kernel_rfl) (by kernel_rfl) (h_free rfl) ?_ ?_ ?_; rotate_left; (focus (intro v hv; refine run_cells 25 (.tmp 20) ?_ b (off + (k + 1) * 6) ?_ (snC ys yn yb yt yk ya ym yc) _ (fun j' u hj => by rw [hv.cell (p := ⟨b, off + (k + 1) * 6 + j', none⟩) (World.block_lt_of_cell? wr _ (YC.out j' u hj))]; exact YC.out j' u hj) Try.underlying25 rfl sn_size; (focus rfl); go_simp)); go_simp)
        (refine h_call 10 rfl (by kernel_rfl) (h_free rfl) 34 ?_ ?_ ?_; rotate_left; (focus (go_simp; rfl)))
        refine (HK.out wd).mono ?_
        rintro x w5 ⟨rfl, hb5⟩
        have J5 := Lib.hid (D0.out.trans (hb5.mono D0.out.size))
        clear hb5
        refine ⟨_, rfl, J5.out, ?_⟩
        go_simp
        (refine h_read 11 rfl (by kernel_rfl) (by kernel_rfl) (h_free rfl) ?_ ?_ ?_; rotate_left; (focus (intro v hv; go_simp; rfl)); go_simp)
        refine h_done (by kernel_rfl) ?_
        go_wp2_with fail
        go_ret
        exact ⟨one (vbool (by rw [HF.out])), B.out.trans (J5.out.mono B.out.size)⟩
    · have HT := Lib.hid (show V = true by
        rw [← HV.out, ← P.out, List.take_of_length_le (by rw [HL.out]; omega)])
      have g5 : ¬ ((k : Int) + 1 < (n : Int)) := by omega
      go_wp2_with fail
      go_ret
      exact ⟨one (vbool (by rw [HT.out])), B.out⟩
theorem allMs_next (L : List Sn) (k : Nat) (s : Sn) (h : L[k]? = some s) : (L.take (k + 1)).all okM = ((L.take k).all okM && okM s) := by
  obtain ⟨h1, h2⟩ := List.getElem?_eq_some_iff.1 h
  rw [List.take_succ_eq_append_getElem h1, h2]
  simp
theorem allMs_take (L : List Sn) (k : Nat) (h : L.all okM = true) : (L.take k).all okM = true := by
  rw [List.all_eq_true] at h ⊢
  exact fun s hs => h s (List.mem_of_mem_take hs)
set_option maxRecDepth 100000 in
set_option maxHeartbeats 16000000 in
theorem mcheck (a : Option Addr) (n c : Nat) (L : List Sn) (w : World) (h : SnL w a n c L) :
    Calls Try.prog 13 #[.slice a n c] w fun x w' => x = .returned (.bool (checkM L)) ∧ Below w.heap.size w w' := by
  have HRI := Lib.hid (mrise a n c L w h)
  obtain ⟨X, h, hXL⟩ := h
  have H := Lib.hid h
  have HL := Lib.hid (show L.length = n by rw [← hXL, List.length_map, h.hlen])
  have HXL := Lib.hid hXL
  have hm := h.hmax
  have hle := h.hle
  have SZ := Lib.hid sn_size
  have MZ := Lib.hid sn_zero
  obtain ⟨V, hV⟩ : ∃ V, checkM L = V := ⟨_, rfl⟩
  rw [hV]
  have HV := Lib.hid (show (decide (n ≤ 12) && (riseM none L && L.all okM)) = V by rw [← hV, ← HL.out]; unfold checkM; rw [chkM_split])
  clear h hV hXL
  by_cases h12 : n ≤ 12
  case neg =>
    have HF := Lib.hid (show V = false by rw [← HV.out]; simp [h12])
    have g12 : (12 : Int) < (n : Int) := by omega
    clear HV HRI
    go_enter Try.func13, Try.ntmps13
    go_wp2_with fail
    go_ret
    exact ⟨one (vbool (by rw [HF.out])), Below.refl _ _⟩
  have g12 : ¬ (12 : Int) < (n : Int) := by omega
  have HV := Lib.hid (show (riseM none L && L.all okM) = V by rw [← HV.out]; simp [h12])
  obtain ⟨rv, hrv⟩ : ∃ v, riseM none L = v := ⟨_, rfl⟩
  have HV := Lib.hid (show (rv && L.all okM) = V by rw [← hrv]; exact HV.out)
  rw [hrv] at HRI
  clear hrv
  cases rv
  · have HF := Lib.hid (show V = false by rw [← HV.out]; rfl)
    go_enter Try.func13, Try.ntmps13
    go_wp2_with (first
      | (go_at_call 43; (with_reducible refine HRI.out.mono ?_); rintro x w1 ⟨rfl, hb⟩; have B1 := Lib.hid hb; clear hb))
    go_ret
    exact ⟨one (vbool (by rw [HF.out])), B1.out⟩
  have HV := Lib.hid (show L.all okM = V by rw [← HV.out]; rfl)
  go_enter Try.func13, Try.ntmps13
  go_wp2_with (first
    | (go_at_call 43; (with_reducible refine HRI.out.mono ?_); rintro x w1 ⟨rfl, hb⟩; have B1 := Lib.hid hb; clear hb))
  go_loopw [15] (fun i wr => ∃ k : Nat, i = .int .i64 (k : Int) ∧ k ≤ n ∧ Hid ((L.take k).all okM = true) ∧ Hid (Below w.heap.size w wr)) (fun i _ => n - (intOf i).toNat)
  case atStart => exact ⟨0, rfl, Nat.zero_le _, Lib.hid rfl, B1⟩
  case round =>
    obtain ⟨k, rfl, hk, P, B⟩ := hrel
    by_cases hlt : k < n
    · obtain ⟨b, off, x, rfl, hx, hcell, hfx⟩ := H.out.at snOk B.out k hlt
      have hnx := allMs_next L k x.s (map_at HXL.out hx)
      rw [P.out, Bool.true_and] at hnx
      have hbad : (L.take (k + 1)).all okM = false → V = false := fun h => by
        rw [← HV.out]
        cases hc : L.all okM
        · rfl
        · rw [allMs_take L (k + 1) hc] at h; cases h
      obtain ⟨ok, hok⟩ : ∃ b, okM x.s = b := ⟨_, rfl⟩
      rw [hok] at hnx
      have HONE := Lib.hid (fun w' (hb : Below wr.heap.size wr w') => pfits x w' (snOk.mono x _ _ hfx hb))
      rw [hok] at HONE
      obtain ⟨⟨xs, xn, xb, xt, xk, xp⟩, xa, xm, xc⟩ := x
      have XC := Lib.hid hcell
      have g1 : (0 : Int) ≤ (k : Int) := by omega
      have g2 : (k : Int) < (n : Int) := by omega
      clear hx hcell hfx hok
      cases ok
      · have HF := Lib.hid (hbad hnx)
        clear hnx hbad
        go_wp2_with (first
          | ((with_reducible refine load_cells (o := ⟨some 18, _, _, _, _, _⟩) rfl _ _ rfl b (off + k * 6) ?_ (snC xs xn xb xt xk xa xm xc) _ XC.out Try.underlying25 rfl ?_ ?_); (focus go_simp); (focus (exact SZ.out)))
          | ((with_reducible refine alloc_row (o := ⟨some 4, _, _, _, _, _⟩) rfl _ rfl _ MZ.out ?_); intro w5 hr hb hz; have R5 := Lib.hid hr; have N5 := Lib.hid hb; have B5 := Lib.hid (B.out.trans (hb.mono B.out.size)); clear hr hb hz)
          | ((with_reducible refine store_row (o := ⟨none, _, _, _, _, _⟩) rfl _ (.tmp 4) _ rfl wr.heap.size (snC xs xn xb xt xk xa xm xc) ?_ ?_ 25 _ R5.out ?_ ?_ ?_ ?_); (focus go_simp); (focus (first | (go_simp; done) | (go_simp; rfl))); (focus (exact SZ.out)); (focus rfl); (focus (exact sn_one _ _ _ _ _ _ _ _)); intro w6 hr2 hu2; have R6 := Lib.hid hr2; have N6 := Lib.hid (N5.out.trans (hu2.below (Nat.le_refl _))); have B6 := Lib.hid (B5.out.trans (hu2.below B.out.size)); clear hr2 hu2)
          | ((with_reducible refine load_row (o := ⟨some 19, _, _, _, _, _⟩) rfl _ _ rfl wr.heap.size ?_ _ (snC xs xn xb xt xk xa xm xc) _ R6.out Try.underlying25 rfl ?_ ?_); (focus go_simp); (focus (exact SZ.out)))
          | (go_at_call 29; (with_reducible refine (HONE.out w6 N6.out).mono ?_); rintro x w7 ⟨rfl, hb⟩; have B7 := Lib.hid (B6.out.trans (hb.mono B6.out.size)); clear hb))
        go_ret
        exact ⟨one (vbool (by rw [HF.out])), B7.out⟩
      · have HN := Lib.hid hnx
        clear hnx hbad
        go_wp2_with (first
          | ((with_reducible refine load_cells (o := ⟨some 18, _, _, _, _, _⟩) rfl _ _ rfl b (off + k * 6) ?_ (snC xs xn xb xt xk xa xm xc) _ XC.out Try.underlying25 rfl ?_ ?_); (focus go_simp); (focus (exact SZ.out)))
          | ((with_reducible refine alloc_row (o := ⟨some 4, _, _, _, _, _⟩) rfl _ rfl _ MZ.out ?_); intro w5 hr hb hz; have R5 := Lib.hid hr; have N5 := Lib.hid hb; have B5 := Lib.hid (B.out.trans (hb.mono B.out.size)); clear hr hb hz)
          | ((with_reducible refine store_row (o := ⟨none, _, _, _, _, _⟩) rfl _ (.tmp 4) _ rfl wr.heap.size (snC xs xn xb xt xk xa xm xc) ?_ ?_ 25 _ R5.out ?_ ?_ ?_ ?_); (focus go_simp); (focus (first | (go_simp; done) | (go_simp; rfl))); (focus (exact SZ.out)); (focus rfl); (focus (exact sn_one _ _ _ _ _ _ _ _)); intro w6 hr2 hu2; have R6 := Lib.hid hr2; have N6 := Lib.hid (N5.out.trans (hu2.below (Nat.le_refl _))); have B6 := Lib.hid (B5.out.trans (hu2.below B.out.size)); clear hr2 hu2)
          | ((with_reducible refine load_row (o := ⟨some 19, _, _, _, _, _⟩) rfl _ _ rfl wr.heap.size ?_ _ (snC xs xn xb xt xk xa xm xc) _ R6.out Try.underlying25 rfl ?_ ?_); (focus go_simp); (focus (exact SZ.out)))
          | (go_at_call 29; (with_reducible refine (HONE.out w6 N6.out).mono ?_); rintro x w7 ⟨rfl, hb⟩; have B7 := Lib.hid (B6.out.trans (hb.mono B6.out.size)); clear hb))
        go_roundw
        case rel => exact ⟨k + 1, vint (by omega), by omega, HN, B7⟩
        case measure => simp [intOf]; omega
    · obtain rfl : n = k := by omega
      have HT := Lib.hid (show V = true by
        rw [← HV.out, ← P.out, List.take_of_length_le (by rw [HL.out]; exact Nat.le_refl _)])
      go_wp2_with fail
      go_ret
      exact ⟨one (vbool (by rw [HT.out])), B.out⟩
end Go.Proofs.Ytdinfpjckmgihaa.W
