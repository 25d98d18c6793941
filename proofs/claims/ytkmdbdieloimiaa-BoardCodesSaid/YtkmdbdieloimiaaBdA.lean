/- LAYER 25 (board): closures, slices.IndexFunc, ContainsFunc, Clone, DeleteFunc of shares; cmp.Compare. -/
import Derived.Test.YtkmdbdieloimiaaBdO
import Derived.Test.YtkmdbdieloimiaaIzI
set_option linter.unusedSimpArgs false
set_option linter.unusedVariables false
namespace Go.Proofs.Ytkmdbdieloimiaa.W
open Go Go.ChangeShapes Go.WideShapes Go.ChangeAt Go.RowKit
open Go.Proofs.Ytkmdbdieloimiaa.S

set_option maxRecDepth 100000 in
set_option maxHeartbeats 4000000 in
theorem bdof (x : Int) (w : World) : Calls Try.prog 30 #[.int .i64 x] w fun e w' => e = .returned (.func (.func 57) #[] #[.pointer (some ⟨w.heap.size, 0, none⟩)]) ∧ Row w' w.heap.size 3 [.int .i64 x] ∧ Below w.heap.size w w' := by
  go_enter Try.func30, Try.ntmps30
  go_wp2_with (first
    | ((with_reducible refine box_cell (o := ⟨some 1, _, _, _, _, _⟩) rfl _ _ rfl (.int .i64 x) rfl rfl ?_); intro w1 hr hb hz; have R1 := Lib.hid hr; have B1 := Lib.hid hb; clear hr hb hz))
  go_ret
  exact ⟨rfl, R1.out, B1.out⟩
set_option maxRecDepth 100000 in
set_option maxHeartbeats 4000000 in
theorem bdof1 (x : Int) (s : Sh) (g : Nat) (w : World) (h : Row w g 3 [.int .i64 x]) : Calls Try.prog 57 #[.agg s.cells.toArray, .pointer (some ⟨g, 0, none⟩)] w fun e w' => e = .returned (.bool (ofS x s)) ∧ Below w.heap.size w w' := by
  obtain ⟨xl, xb⟩ := s
  have H := Lib.hid h
  clear h
  go_enter Try.func57, Try.ntmps57
  go_wp2_with (first
    | (with_reducible refine box_row (o := ⟨some 2, _, _, _, _, _⟩) rfl _ _ rfl [.int .i64 xl, .int .i64 xb] rfl ?_; intro w1 hr1 hb1 hz1; obtain ⟨c0, c1⟩ := hr1.k2; have k0 := (H.out.below hb1 H.out.lt).k0; have B1 := Lib.hid hb1; clear hr1 hb1 hz1))
  go_ret
  exact ⟨one (vbool (by unfold ofS; first | done | rfl | (simp; done) | (cases hq : decide (xl = x) <;> simp_all))), B1.out⟩
set_option maxRecDepth 100000 in
set_option maxHeartbeats 4000000 in
theorem bdab (x : Int) (w : World) : Calls Try.prog 34 #[.int .i64 x] w fun e w' => e = .returned (.func (.func 60) #[] #[.pointer (some ⟨w.heap.size, 0, none⟩)]) ∧ Row w' w.heap.size 3 [.int .i64 x] ∧ Below w.heap.size w w' := by
  go_enter Try.func34, Try.ntmps34
  go_wp2_with (first
    | ((with_reducible refine box_cell (o := ⟨some 1, _, _, _, _, _⟩) rfl _ _ rfl (.int .i64 x) rfl rfl ?_); intro w1 hr hb hz; have R1 := Lib.hid hr; have B1 := Lib.hid hb; clear hr hb hz))
  go_ret
  exact ⟨rfl, R1.out, B1.out⟩
set_option maxRecDepth 100000 in
set_option maxHeartbeats 4000000 in
theorem bdab1 (x : Int) (s : Sh) (g : Nat) (w : World) (h : Row w g 3 [.int .i64 x]) : Calls Try.prog 60 #[.agg s.cells.toArray, .pointer (some ⟨g, 0, none⟩)] w fun e w' => e = .returned (.bool (abS x s)) ∧ Below w.heap.size w w' := by
  obtain ⟨xl, xb⟩ := s
  have H := Lib.hid h
  clear h
  go_enter Try.func60, Try.ntmps60
  go_wp2_with (first
    | (with_reducible refine box_row (o := ⟨some 2, _, _, _, _, _⟩) rfl _ _ rfl [.int .i64 xl, .int .i64 xb] rfl ?_; intro w1 hr1 hb1 hz1; obtain ⟨c0, c1⟩ := hr1.k2; have k0 := (H.out.below hb1 H.out.lt).k0; have B1 := Lib.hid hb1; clear hr1 hb1 hz1))
  go_ret
  exact ⟨one (vbool (by unfold abS; first | done | rfl | (simp; done) | (cases hq : decide (xl = x) <;> simp_all))), B1.out⟩
set_option maxRecDepth 100000 in
set_option maxHeartbeats 4000000 in
theorem bdwrong (s : Sh) (w : World) : Calls Try.prog 39 #[.agg s.cells.toArray] w fun e w' => e = .returned (.bool (wrS s)) ∧ Below w.heap.size w w' := by
  obtain ⟨xl, xb⟩ := s
  obtain ⟨b0, h0⟩ : ∃ q, in64 xl 1 4 = q := ⟨_, rfl⟩
  obtain ⟨b1, h1⟩ : ∃ q, in64 xb 1 1099511627776 = q := ⟨_, rfl⟩
  have HX := Lib.hid (show wrS ⟨xl, xb⟩ = !(b0 && b1) by rw [← h0, ← h1]; rfl)
  have H0 := Lib.hid h0
  have H1 := Lib.hid h1
  clear h0 h1
  cases b0 <;> cases b1
  all_goals
    go_enter Try.func39, Try.ntmps39
    go_wp2_with (first
      | (with_reducible refine box_row (o := ⟨some 1, _, _, _, _, _⟩) rfl _ _ rfl [.int .i64 xl, .int .i64 xb] rfl ?_; intro w1 hr1 hb1 hz1; obtain ⟨c0, c1⟩ := hr1.k2; have B1 := Lib.hid hb1; clear hr1 hb1 hz1)
      | (go_at_call 55; (with_reducible refine (pin xl 1 4 _ H0.out _).mono ?_); rintro x w' ⟨rfl, rfl⟩)
      | (go_at_call 55; (with_reducible refine (pin xb 1 1099511627776 _ H1.out _).mono ?_); rintro x w' ⟨rfl, rfl⟩))
    go_ret
    exact ⟨one (vbool (by rw [HX.out]; rfl)), B1.out⟩
set_option maxRecDepth 100000 in
set_option maxHeartbeats 16000000 in
theorem shclone (a : Option Addr) (n c : Nat) (L : List Sh) (w : World) (h : Ls shE w a n c L) (hn : n ≤ 1000) :
    Calls Try.prog 29 #[.slice a n c] w fun x w' => ∃ a' c', x = .returned (.slice a' n c') ∧ LsO shE w' w.heap.size (.slice a' n c') L ∧ Below w.heap.size w w' := by
  have H := Lib.hid h
  have hnil := fun (w : World) (a : Option Addr) (n c : Nat) => Lib.run_eql_slice_nil (P := Try.prog) w 23 58 a n c 0 0 Try.underlying23
  rcases a with _ | ad
  · have h0 := h.hnil rfl
    have h1 := h.hle
    have h2 := h.hlen
    obtain rfl : n = 0 := by omega
    have : L = [] := List.eq_nil_of_length_eq_zero h2
    subst this h0
    clear h h1 h2
    go_enter Try.func29, Try.ntmps29
    go_wp2_with fail
    go_ret
    exact ⟨none, 0, rfl, LsO.nil _ _, Below.refl _ _⟩
  · have HL := Lib.hid h.hlen
    have HFIT := Lib.hid h.hfit
    clear h
    go_enter Try.func29, Try.ntmps29
    go_wp2_with (at_builtin; refine append_ls shOk rfl _ _ rfl w.heap.size _ [] rfl (LsO.empty w _ (Nat.le_refl _)) (some ad) n c L rfl (H.out.mono shOk ((Below.refl _ _).alloc (Nat.le_refl _) _)) (by simp; omega) (by simp) ?_; intro v2 w2 hN hb2 _ _; have N2 := Lib.hid (show LsO shE w2 w.heap.size v2 L from hN); have B2 := Lib.hid (((Below.refl _ _).alloc (Nat.le_refl _) _).trans hb2); clear hN hb2)
    obtain ⟨a2, c2, hv, -, -⟩ := N2.out.ls shOk (fun x hx => shOk.mono x _ _ (HFIT.out x hx) B2.out)
    subst hv
    rw [HL.out] at N2 ⊢
    go_ret
    exact ⟨a2, c2, rfl, N2.out, B2.out⟩
set_option maxRecDepth 100000 in
set_option maxHeartbeats 8000000 in
theorem shidx_of (y : Int) (g : Nat) (a : Option Addr) (n c : Nat) (L : List Sh) (w : World) (h : Ls shE w a n c L) (hg : Row w g 3 [.int .i64 y]) :
    Calls Try.prog 56 #[.slice a n c, .func (.func 57) #[] #[.pointer (some ⟨g, 0, none⟩)]] w fun x w' => x = .returned (.int .i64 (idxI (ofS y) L)) ∧ Below w.heap.size w w' := by
  have H := Lib.hid h
  have HL := Lib.hid h.hlen
  have HG := Lib.hid hg
  have hm := h.hmax
  have hle := h.hle
  have SZ := Lib.hid sh_size
  obtain ⟨V, hV⟩ : ∃ V, idxI (ofS y) L = V := ⟨_, rfl⟩
  rw [hV]
  have HV := Lib.hid hV
  clear h hV hg
  go_enter Try.func56, Try.ntmps56
  go_wp2_with fail
  go_loopw [8] (fun i wr => ∃ k : Nat, i = .int .i64 (k : Int) ∧ k ≤ n ∧ Hid (∀ i, i < k → ∀ x, L[i]? = some x → (ofS y) x = false) ∧ Hid (Below w.heap.size w wr)) (fun i _ => n - (intOf i).toNat)
  case atStart => exact ⟨0, rfl, Nat.zero_le _, Lib.hid (fun i h => absurd h (by omega)), Lib.hid (Below.refl _ _)⟩
  case round =>
    obtain ⟨k, rfl, hk, HP, B⟩ := hrel
    by_cases hlt : k < n
    · obtain ⟨b, off, x, rfl, hx, hcell, hft⟩ := H.out.at shOk B.out k hlt
      have XC := Lib.hid hcell
      have HX := Lib.hid hx
      have HFT := Lib.hid hft
      have HR := Lib.hid (HG.out.below B.out HG.out.lt)
      obtain ⟨q, hq⟩ : ∃ q, (ofS y) x = q := ⟨_, rfl⟩
      have HQ := Lib.hid hq
      have HC := Lib.hid (bdof1 y x g wr HR.out)
      rw [hq] at HC
      have g1 : (0 : Int) ≤ (k : Int) := by omega
      have g2 : (k : Int) < (n : Int) := by omega
      clear hx hcell hq hft
      obtain ⟨xl, xb⟩ := x
      cases q
      · go_wp2_with (first
          | ((with_reducible refine load_cells (o := ⟨some 15, _, _, _, _, _⟩) rfl _ _ rfl b (off + k * 2) ?_ [.int .i64 xl, .int .i64 xb] _ XC.out Try.underlying58 rfl ?_ ?_); (focus go_simp); (focus (exact SZ.out)))
          | (go_at_call 57; refine HC.out.mono ?_; rintro x w5 ⟨rfl, hb5⟩; have B5 := Lib.hid (B.out.trans (hb5.mono B.out.size)); clear hb5))
        go_roundw
        case rel =>
          refine ⟨k + 1, vint (by omega), by omega, Lib.hid ?_, B5⟩
          intro i hi x hx
          by_cases h : i < k
          · exact HP.out i h x hx
          · obtain rfl : i = k := by omega
            rw [HX.out] at hx; injection hx with hx; subst hx; exact HQ.out
        case measure => simp [intOf]; omega
      · have HZ := Lib.hid (show V = (k : Int) by rw [← HV.out]; exact idxI_at (ofS y) L k _ HX.out HQ.out HP.out)
        go_wp2_with (first
          | ((with_reducible refine load_cells (o := ⟨some 15, _, _, _, _, _⟩) rfl _ _ rfl b (off + k * 2) ?_ [.int .i64 xl, .int .i64 xb] _ XC.out Try.underlying58 rfl ?_ ?_); (focus go_simp); (focus (exact SZ.out)))
          | (go_at_call 57; refine HC.out.mono ?_; rintro x w5 ⟨rfl, hb5⟩; have B5 := Lib.hid (B.out.trans (hb5.mono B.out.size)); clear hb5))
        go_ret
        exact ⟨one (vint (by rw [HZ.out])), B5.out⟩
    · obtain rfl : n = k := by omega
      have HZ := Lib.hid (show V = -1 by rw [← HV.out]; exact idxI_no (ofS y) L (fun i x hx => HP.out i (by rw [← HL.out]; exact (List.getElem?_eq_some_iff.1 hx).1) x hx))
      go_wp2_with fail
      go_ret
      exact ⟨one (vint (by rw [HZ.out])), B.out⟩
set_option maxRecDepth 100000 in
set_option maxHeartbeats 8000000 in
theorem shidx_ab (y : Int) (g : Nat) (a : Option Addr) (n c : Nat) (L : List Sh) (w : World) (h : Ls shE w a n c L) (hg : Row w g 3 [.int .i64 y]) :
    Calls Try.prog 56 #[.slice a n c, .func (.func 60) #[] #[.pointer (some ⟨g, 0, none⟩)]] w fun x w' => x = .returned (.int .i64 (idxI (abS y) L)) ∧ Below w.heap.size w w' := by
  have H := Lib.hid h
  have HL := Lib.hid h.hlen
  have HG := Lib.hid hg
  have hm := h.hmax
  have hle := h.hle
  have SZ := Lib.hid sh_size
  obtain ⟨V, hV⟩ : ∃ V, idxI (abS y) L = V := ⟨_, rfl⟩
  rw [hV]
  have HV := Lib.hid hV
  clear h hV hg
  go_enter Try.func56, Try.ntmps56
  go_wp2_with fail
  go_loopw [8] (fun i wr => ∃ k : Nat, i = .int .i64 (k : Int) ∧ k ≤ n ∧ Hid (∀ i, i < k → ∀ x, L[i]? = some x → (abS y) x = false) ∧ Hid (Below w.heap.size w wr)) (fun i _ => n - (intOf i).toNat)
  case atStart => exact ⟨0, rfl, Nat.zero_le _, Lib.hid (fun i h => absurd h (by omega)), Lib.hid (Below.refl _ _)⟩
  case round =>
    obtain ⟨k, rfl, hk, HP, B⟩ := hrel
    by_cases hlt : k < n
    · obtain ⟨b, off, x, rfl, hx, hcell, hft⟩ := H.out.at shOk B.out k hlt
      have XC := Lib.hid hcell
      have HX := Lib.hid hx
      have HFT := Lib.hid hft
      have HR := Lib.hid (HG.out.below B.out HG.out.lt)
      obtain ⟨q, hq⟩ : ∃ q, (abS y) x = q := ⟨_, rfl⟩
      have HQ := Lib.hid hq
      have HC := Lib.hid (bdab1 y x g wr HR.out)
      rw [hq] at HC
      have g1 : (0 : Int) ≤ (k : Int) := by omega
      have g2 : (k : Int) < (n : Int) := by omega
      clear hx hcell hq hft
      obtain ⟨xl, xb⟩ := x
      cases q
      · go_wp2_with (first
          | ((with_reducible refine load_cells (o := ⟨some 15, _, _, _, _, _⟩) rfl _ _ rfl b (off + k * 2) ?_ [.int .i64 xl, .int .i64 xb] _ XC.out Try.underlying58 rfl ?_ ?_); (focus go_simp); (focus (exact SZ.out)))
          | (go_at_call 60; refine HC.out.mono ?_; rintro x w5 ⟨rfl, hb5⟩; have B5 := Lib.hid (B.out.trans (hb5.mono B.out.size)); clear hb5))
        go_roundw
        case rel =>
          refine ⟨k + 1, vint (by omega), by omega, Lib.hid ?_, B5⟩
          intro i hi x hx
          by_cases h : i < k
          · exact HP.out i h x hx
          · obtain rfl : i = k := by omega
            rw [HX.out] at hx; injection hx with hx; subst hx; exact HQ.out
        case measure => simp [intOf]; omega
      · have HZ := Lib.hid (show V = (k : Int) by rw [← HV.out]; exact idxI_at (abS y) L k _ HX.out HQ.out HP.out)
        go_wp2_with (first
          | ((with_reducible refine load_cells (o := ⟨some 15, _, _, _, _, _⟩) rfl _ _ rfl b (off + k * 2) ?_ [.int .i64 xl, .int .i64 xb] _ XC.out Try.underlying58 rfl ?_ ?_); (focus go_simp); (focus (exact SZ.out)))
          | (go_at_call 60; refine HC.out.mono ?_; rintro x w5 ⟨rfl, hb5⟩; have B5 := Lib.hid (B.out.trans (hb5.mono B.out.size)); clear hb5))
        go_ret
        exact ⟨one (vint (by rw [HZ.out])), B5.out⟩
    · obtain rfl : n = k := by omega
      have HZ := Lib.hid (show V = -1 by rw [← HV.out]; exact idxI_no (abS y) L (fun i x hx => HP.out i (by rw [← HL.out]; exact (List.getElem?_eq_some_iff.1 hx).1) x hx))
      go_wp2_with fail
      go_ret
      exact ⟨one (vint (by rw [HZ.out])), B.out⟩
set_option maxRecDepth 100000 in
set_option maxHeartbeats 8000000 in
theorem shidx_wr  (a : Option Addr) (n c : Nat) (L : List Sh) (w : World) (h : Ls shE w a n c L) :
    Calls Try.prog 56 #[.slice a n c, .func (.func 39) #[] #[]] w fun x w' => x = .returned (.int .i64 (idxI wrS L)) ∧ Below w.heap.size w w' := by
  have H := Lib.hid h
  have HL := Lib.hid h.hlen
  have hm := h.hmax
  have hle := h.hle
  have SZ := Lib.hid sh_size
  obtain ⟨V, hV⟩ : ∃ V, idxI wrS L = V := ⟨_, rfl⟩
  rw [hV]
  have HV := Lib.hid hV
  clear h hV
  go_enter Try.func56, Try.ntmps56
  go_wp2_with fail
  go_loopw [8] (fun i wr => ∃ k : Nat, i = .int .i64 (k : Int) ∧ k ≤ n ∧ Hid (∀ i, i < k → ∀ x, L[i]? = some x → wrS x = false) ∧ Hid (Below w.heap.size w wr)) (fun i _ => n - (intOf i).toNat)
  case atStart => exact ⟨0, rfl, Nat.zero_le _, Lib.hid (fun i h => absurd h (by omega)), Lib.hid (Below.refl _ _)⟩
  case round =>
    obtain ⟨k, rfl, hk, HP, B⟩ := hrel
    by_cases hlt : k < n
    · obtain ⟨b, off, x, rfl, hx, hcell, hft⟩ := H.out.at shOk B.out k hlt
      have XC := Lib.hid hcell
      have HX := Lib.hid hx
      have HFT := Lib.hid hft
      obtain ⟨q, hq⟩ : ∃ q, wrS x = q := ⟨_, rfl⟩
      have HQ := Lib.hid hq
      have HC := Lib.hid (bdwrong x wr)
      rw [hq] at HC
      have g1 : (0 : Int) ≤ (k : Int) := by omega
      have g2 : (k : Int) < (n : Int) := by omega
      clear hx hcell hq hft
      obtain ⟨xl, xb⟩ := x
      cases q
      · go_wp2_with (first
          | ((with_reducible refine load_cells (o := ⟨some 15, _, _, _, _, _⟩) rfl _ _ rfl b (off + k * 2) ?_ [.int .i64 xl, .int .i64 xb] _ XC.out Try.underlying58 rfl ?_ ?_); (focus go_simp); (focus (exact SZ.out)))
          | (go_at_call 39; refine HC.out.mono ?_; rintro x w5 ⟨rfl, hb5⟩; have B5 := Lib.hid (B.out.trans (hb5.mono B.out.size)); clear hb5))
        go_roundw
        case rel =>
          refine ⟨k + 1, vint (by omega), by omega, Lib.hid ?_, B5⟩
          intro i hi x hx
          by_cases h : i < k
          · exact HP.out i h x hx
          · obtain rfl : i = k := by omega
            rw [HX.out] at hx; injection hx with hx; subst hx; exact HQ.out
        case measure => simp [intOf]; omega
      · have HZ := Lib.hid (show V = (k : Int) by rw [← HV.out]; exact idxI_at wrS L k _ HX.out HQ.out HP.out)
        go_wp2_with (first
          | ((with_reducible refine load_cells (o := ⟨some 15, _, _, _, _, _⟩) rfl _ _ rfl b (off + k * 2) ?_ [.int .i64 xl, .int .i64 xb] _ XC.out Try.underlying58 rfl ?_ ?_); (focus go_simp); (focus (exact SZ.out)))
          | (go_at_call 39; refine HC.out.mono ?_; rintro x w5 ⟨rfl, hb5⟩; have B5 := Lib.hid (B.out.trans (hb5.mono B.out.size)); clear hb5))
        go_ret
        exact ⟨one (vint (by rw [HZ.out])), B5.out⟩
    · obtain rfl : n = k := by omega
      have HZ := Lib.hid (show V = -1 by rw [← HV.out]; exact idxI_no wrS L (fun i x hx => HP.out i (by rw [← HL.out]; exact (List.getElem?_eq_some_iff.1 hx).1) x hx))
      go_wp2_with fail
      go_ret
      exact ⟨one (vint (by rw [HZ.out])), B.out⟩
set_option maxRecDepth 100000 in
set_option maxHeartbeats 4000000 in
theorem shcont (a : Option Addr) (n c : Nat) (L : List Sh) (w : World) (h : Ls shE w a n c L) : Calls Try.prog 38 #[.slice a n c, .func (.func 39) #[] #[]] w fun x w' => x = .returned (.bool (!L.all shOkV)) ∧ Below w.heap.size w w' := by
  have HI := Lib.hid (shidx_wr a n c L w h)
  obtain ⟨V, hV⟩ : ∃ V, (!L.all shOkV) = V := ⟨_, rfl⟩
  rw [hV]
  have HV := Lib.hid hV
  rcases idxI_or wrS L with ⟨hz, hall⟩ | ⟨k, y, hz, hk, hy, hpk, -⟩
  · rw [hz] at HI
    have HW := Lib.hid (show V = false by
      rw [← HV.out]
      have : L.all shOkV = true := List.all_eq_true.2 (fun x hx => by have := hall x hx; unfold wrS at this; simpa using this)
      rw [this]; rfl)
    clear h hV hz hall
    go_enter Try.func38, Try.ntmps38
    go_wp2_with (go_at_call 56; (with_reducible refine HI.out.mono ?_); rintro x w1 ⟨rfl, hb⟩; have B1 := Lib.hid hb; clear hb)
    go_ret
    exact ⟨one (vbool (by rw [HW.out]; first | done | rfl | simp)), B1.out⟩
  · rw [hz] at HI
    have HW := Lib.hid (show V = true by
      rw [← HV.out]
      have : L.all shOkV = false := List.all_eq_false.2 ⟨y, List.mem_of_getElem? hy, by unfold wrS at hpk; simpa using hpk⟩
      rw [this]; rfl)
    have g1 : (0 : Int) ≤ (k : Int) := by omega
    clear h hV hz hpk hy hk
    go_enter Try.func38, Try.ntmps38
    go_wp2_with (go_at_call 56; (with_reducible refine HI.out.mono ?_); rintro x w1 ⟨rfl, hb⟩; have B1 := Lib.hid hb; clear hb)
    go_ret
    exact ⟨one (vbool (by rw [HW.out]; first | done | rfl | simp)), B1.out⟩
end Go.Proofs.Ytkmdbdieloimiaa.W
