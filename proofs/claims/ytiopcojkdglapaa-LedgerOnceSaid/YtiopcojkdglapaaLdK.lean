/- LAYER 19 (ledger): hasID, IndexFunc, Find, slices.Delete of the program. LAYER 19 (ledger): slices.Delete of one hold, Release of the program. -/
import Derived.Test.YtiopcojkdglapaaLdV
import Derived.Test.YtiopcojkdglapaaDel
set_option linter.unusedSimpArgs false
set_option linter.unusedVariables false
namespace Go.Proofs.Ytiopcojkdglapaa.W
open Go Go.ChangeShapes Go.WideShapes Go.ChangeAt Go.RowKit
open Go.Proofs.Ytiopcojkdglapaa.P (enc dec)
open Go.Proofs.Ytiopcojkdglapaa.S

set_option maxRecDepth 100000 in
set_option maxHeartbeats 4000000 in
theorem phasid (id : Int) (w : World) : Calls Try.prog 107 #[.int .i64 id] w fun x w' => x = .returned (.func (.func 148) #[] #[.pointer (some ⟨w.heap.size, 0, none⟩)]) ∧ Row w' w.heap.size 3 [.int .i64 id] ∧ Below w.heap.size w w' := by
  go_enter Try.func107, Try.ntmps107
  go_wp2_with (first
    | ((with_reducible refine box_cell (o := ⟨some 1, _, _, _, _, _⟩) rfl _ _ rfl (.int .i64 id) rfl rfl ?_); intro w1 hr hb hz; have R1 := Lib.hid hr; have B1 := Lib.hid hb; clear hr hb hz))
  go_ret
  exact ⟨rfl, R1.out, B1.out⟩
set_option maxRecDepth 100000 in
set_option maxHeartbeats 4000000 in
theorem phasid1 (id : Int) (s : Hd) (g : Nat) (w : World) (h : Row w g 3 [.int .i64 id]) (q : Bool) (hq : decide (s.id = id) = q) : Calls Try.prog 148 #[.agg s.cells.toArray, .pointer (some ⟨g, 0, none⟩)] w fun x w' => x = .returned (.bool q) ∧ Below w.heap.size w w' := by
  obtain ⟨i1, i2, i3, i4, i5, sp⟩ := s
  have HX := Lib.hid (show decide (i1 = id) = q from hq)
  have H := Lib.hid h
  clear h hq
  rw [show (Hd.cells ⟨i1, i2, i3, i4, i5, sp⟩) = [.int .i64 i1, .int .i64 i2, .int .i64 i3, .int .i64 i4, .int .i64 i5, .string sp] from rfl]
  go_enter Try.func148, Try.ntmps148
  go_wp2_with (first
    | (with_reducible refine box_row (o := ⟨some 2, _, _, _, _, _⟩) rfl _ _ rfl [.int .i64 i1, .int .i64 i2, .int .i64 i3, .int .i64 i4, .int .i64 i5, .string sp] rfl ?_; intro w1 hr1 hb1 hz1; obtain ⟨c0, c1, c2, c3, c4, c5⟩ := hr1.h6; have k0 := (H.out.below hb1 H.out.lt).k0; have B1 := Lib.hid hb1; clear hr1 hb1 hz1))
  go_ret
  exact ⟨one (vbool (by have hx := HX.out; first | exact hx | (rw [← hx]; rfl) | (subst hx; simp) | (simp at hx ⊢; exact hx))), B1.out⟩
theorem find_or (id : Int) : ∀ L : List Hd, (findH L id = (hdZ, false) ∧ ∀ (i : Nat) (x : Hd), L[i]? = some x → decide (x.id = id) = false) ∨
    ∃ (k : Nat) (y : Hd), L[k]? = some y ∧ decide (y.id = id) = true ∧ (∀ i, i < k → ∀ x, L[i]? = some x → decide (x.id = id) = false) ∧ findH L id = (y, true) ∧ dropH L id = L.take k ++ L.drop (k + 1)
  | [] => .inl ⟨rfl, fun i x h => by simp at h⟩
  | s :: L => by
    by_cases h : s.id = id
    · exact .inr ⟨0, s, rfl, by simpa using h, fun i hi => absurd hi (Nat.not_lt_zero _), by simp [findH, h], by simp [dropH, h]⟩
    · rcases find_or id L with ⟨h0, h1⟩ | ⟨k, y, h1, h2, h3, h4, h5⟩
      · refine .inl ⟨by simp [findH, h, h0], fun i x hx => ?_⟩
        cases i with
        | zero => simp at hx; rw [← hx]; simpa using h
        | succ i => exact h1 i x (by simpa using hx)
      · refine .inr ⟨k + 1, y, by simpa using h1, h2, fun i hi x hx => ?_, by simp [findH, h, h4], by simp [dropH, h, h5]⟩
        cases i with
        | zero => simp at hx; rw [← hx]; simpa using h
        | succ i => exact h3 i (by omega) x (by simpa using hx)
set_option maxRecDepth 100000 in
set_option maxHeartbeats 8000000 in
theorem hidx (id : Int) (g : Nat) (a : Option Addr) (n c : Nat) (L : List Hd) (w : World) (h : Ls hdE w a n c L) (hg : Row w g 3 [.int .i64 id]) :
    Calls Try.prog 106 #[.slice a n c, .func (.func 148) #[] #[.pointer (some ⟨g, 0, none⟩)]] w fun x w' => ∃ z : Int, x = .returned (.int .i64 z) ∧ Below w.heap.size w w' ∧ ((z = -1 ∧ ∀ i, i < n → ∀ x, L[i]? = some x → decide (x.id = id) = false) ∨ ∃ k : Nat, z = (k : Int) ∧ k < n ∧ (∀ x, L[k]? = some x → decide (x.id = id) = true) ∧ ∀ i, i < k → ∀ x, L[i]? = some x → decide (x.id = id) = false) := by
  have H := Lib.hid h
  have HG := Lib.hid hg
  have hm := h.hmax
  have hle := h.hle
  have SZ := Lib.hid hd_size
  clear h hg
  go_enter Try.func106, Try.ntmps106
  go_wp2_with fail
  go_loopw [8] (fun i wr => ∃ k : Nat, i = .int .i64 (k : Int) ∧ k ≤ n ∧ Hid (∀ i, i < k → ∀ x, L[i]? = some x → decide (x.id = id) = false) ∧ Hid (Below w.heap.size w wr)) (fun i _ => n - (intOf i).toNat)
  case atStart => exact ⟨0, rfl, Nat.zero_le _, Lib.hid (fun i h => absurd h (by omega)), Lib.hid (Below.refl _ _)⟩
  case round =>
    obtain ⟨k, rfl, hk, HP, B⟩ := hrel
    by_cases hlt : k < n
    · obtain ⟨b, off, x, rfl, hx, hcell, -⟩ := H.out.at hdOk B.out k hlt
      obtain ⟨q, hq⟩ : ∃ q, decide (x.id = id) = q := ⟨_, rfl⟩
      have HC := Lib.hid (phasid1 id x g wr (HG.out.below B.out HG.out.lt) q hq)
      obtain ⟨i1, i2, i3, i4, i5, sp⟩ := x
      have XC := Lib.hid hcell
      have HX := Lib.hid hx
      have HQ := Lib.hid hq
      have g1 : (0 : Int) ≤ (k : Int) := by omega
      have g2 : (k : Int) < (n : Int) := by omega
      clear hx hcell hq
      cases q
      · go_wp2_with (first
          | ((with_reducible refine load_cells (o := ⟨some 15, _, _, _, _, _⟩) rfl _ _ rfl b (off + k * 6) ?_ [.int .i64 i1, .int .i64 i2, .int .i64 i3, .int .i64 i4, .int .i64 i5, .string sp] _ XC.out Try.underlying52 rfl ?_ ?_); (focus go_simp); (focus (exact SZ.out)))
          | (go_at_call 148; refine HC.out.mono ?_; rintro x w5 ⟨rfl, hb5⟩; have B5 := Lib.hid (B.out.trans (hb5.mono B.out.size)); clear hb5))
        go_roundw
        case rel =>
          refine ⟨k + 1, vint (by omega), by omega, Lib.hid ?_, B5⟩
          intro i hi x hx
          by_cases h : i < k
          · exact HP.out i h x hx
          · obtain rfl : i = k := by omega
            rw [HX.out] at hx; injection hx with hx; subst hx; exact HQ.out
        case measure => simp [intOf]; omega
      · go_wp2_with (first
          | ((with_reducible refine load_cells (o := ⟨some 15, _, _, _, _, _⟩) rfl _ _ rfl b (off + k * 6) ?_ [.int .i64 i1, .int .i64 i2, .int .i64 i3, .int .i64 i4, .int .i64 i5, .string sp] _ XC.out Try.underlying52 rfl ?_ ?_); (focus go_simp); (focus (exact SZ.out)))
          | (go_at_call 148; refine HC.out.mono ?_; rintro x w5 ⟨rfl, hb5⟩; have B5 := Lib.hid (B.out.trans (hb5.mono B.out.size)); clear hb5))
        go_ret
        exact ⟨(k : Int), rfl, B5.out, .inr ⟨k, rfl, hlt, fun x hx => by rw [HX.out] at hx; injection hx with hx; subst hx; exact HQ.out, HP.out⟩⟩
    · obtain rfl : n = k := by omega
      go_wp2_with fail
      go_ret
      exact ⟨-1, rfl, B.out, .inl ⟨rfl, HP.out⟩⟩
theorem hidx_no (id : Int) (g : Nat) (a : Option Addr) (n c : Nat) (L : List Hd) (w : World) (h : Ls hdE w a n c L) (hg : Row w g 3 [.int .i64 id]) (hno : ∀ (i : Nat) (x : Hd), L[i]? = some x → decide (x.id = id) = false) :
    Calls Try.prog 106 #[.slice a n c, .func (.func 148) #[] #[.pointer (some ⟨g, 0, none⟩)]] w fun x w' => x = .returned (.int .i64 (-1)) ∧ Below w.heap.size w w' := by
  refine (hidx id g a n c L w h hg).mono ?_
  rintro x w' ⟨z, rfl, hb, hz⟩
  rcases hz with ⟨rfl, -⟩ | ⟨k, -, hk, hx, -⟩
  · exact ⟨rfl, hb⟩
  · have hk2 : k < L.length := by rw [h.hlen]; exact hk
    have h1 := hno k L[k] (List.getElem?_eq_getElem hk2)
    rw [hx L[k] (List.getElem?_eq_getElem hk2)] at h1
    cases h1
theorem hidx_at (id : Int) (g : Nat) (a : Option Addr) (n c : Nat) (L : List Hd) (w : World) (h : Ls hdE w a n c L) (hg : Row w g 3 [.int .i64 id]) (k : Nat) (y : Hd) (hy : L[k]? = some y) (hp : decide (y.id = id) = true) (hno : ∀ i, i < k → ∀ x, L[i]? = some x → decide (x.id = id) = false) :
    Calls Try.prog 106 #[.slice a n c, .func (.func 148) #[] #[.pointer (some ⟨g, 0, none⟩)]] w fun x w' => x = .returned (.int .i64 (k : Int)) ∧ Below w.heap.size w w' := by
  refine (hidx id g a n c L w h hg).mono ?_
  rintro x w' ⟨z, rfl, hb, hz⟩
  have hkl : k < n := by rw [← h.hlen]; exact (List.getElem?_eq_some_iff.1 hy).1
  rcases hz with ⟨rfl, h2⟩ | ⟨q, rfl, hq, hx, h2⟩
  · have := h2 k hkl y hy
    rw [hp] at this; cases this
  · have hq2 : q < L.length := by rw [h.hlen]; exact hq
    have hqk : q = k := by
      rcases Nat.lt_trichotomy q k with h3 | h3 | h3
      · have h4 := hno q h3 L[q] (List.getElem?_eq_getElem hq2)
        rw [hx L[q] (List.getElem?_eq_getElem hq2)] at h4; cases h4
      · exact h3
      · have h4 := h2 k h3 y hy
        rw [hp] at h4; cases h4
    subst hqk
    exact ⟨rfl, hb⟩
set_option maxRecDepth 100000 in
set_option maxHeartbeats 8000000 in
theorem pfind : LdFindP 46 := by
  intro v l id w h
  obtain ⟨a, n, c, rfl, h⟩ := h
  obtain ⟨q, u, h', nx, L⟩ := l
  dsimp only at h ⊢
  have H := Lib.hid h
  have hlen := Lib.hid h.hlen
  have SZ := Lib.hid hd_size
  have MZ := Lib.hid hd_zero
  have hmax := h.hmax
  have hle := h.hle
  rcases find_or id L with ⟨h0, h1⟩ | ⟨k, y, h1, h2, h3, h4, -⟩
  · have HF := Lib.hid h0
    have HI := Lib.hid (fun g w' (hb : Below w.heap.size w w') hg => hidx_no id g a n c L w' (h.mono hdOk hb) hg h1)
    clear h h0 h1 hmax hle
    go_enter Try.func46, Try.ntmps46
    go_wp2_with (first
      | ((with_reducible refine box_row (o := ⟨some 2, _, _, _, _, _⟩) rfl _ _ rfl (ldC q u h' nx a n c) rfl ?_); intro w1 hr hb hz; have R1 := Lib.hid hr; have B1 := Lib.hid hb; clear hr hb hz)
      | ((with_reducible refine alloc_row (o := ⟨some 4, _, _, _, _, _⟩) rfl _ rfl _ MZ.out ?_); intro w2 hr hb hz; have R22 := Lib.hid hr; have R12 := Lib.hid (R1.out.below hb R1.out.lt); obtain ⟨c0, c1, c2, c3, c4⟩ := R12.out.l5; clear c0 c1 c2 c3; have B2 := Lib.hid (B1.out.trans (hb.mono B1.out.size)); clear hr hb hz))
    have c4 := Lib.hid c4
    refine region_h (fun v => Below w2.heap.size w2 v) (by kernel_rfl) (by kernel_rfl) (Below.refl _ _).drew ?_
    obtain ⟨wd, hwd⟩ : ∃ wd, w2.drew = wd := ⟨_, rfl⟩
    have D0 : Hid (Below w2.heap.size w2 wd) := Lib.hid (by rw [← hwd]; exact (Below.refl _ _).drew)
    rw [hwd]
    clear hwd
    (refine h_read 0 rfl (by kernel_rfl) (by kernel_rfl) (h_free rfl) ?_ ?_ ?_; rotate_left; (focus (intro v hv; go_simp; rfl)); go_simp)
    (refine h_read 1 rfl (by kernel_rfl) (by kernel_rfl) (h_free rfl) ?_ ?_ ?_; rotate_left; (focus (intro v hv; have q0 := (hv.cell (p := ⟨w.heap.size, 4, none⟩) R12.out.lt).trans c4.out; go_simp; rfl)); go_simp)
    (refine h_read 2 rfl (by kernel_rfl) (by kernel_rfl) (h_free rfl) ?_ ?_ ?_; rotate_left; (focus (intro v hv; go_simp; rfl)); go_simp)
    (refine h_call 3 rfl (by kernel_rfl) (h_free rfl) 107 ?_ ?_ ?_; rotate_left; (focus (go_simp; rfl)))
    refine (phasid id wd).mono ?_
    rintro x wh ⟨rfl, hrh, hbh⟩
    have RH := Lib.hid hrh
    have DH := Lib.hid (D0.out.trans (hbh.mono D0.out.size))
    clear hrh hbh
    refine ⟨_, rfl, DH.out, ?_⟩
    go_simp
    (refine h_call 4 rfl (by kernel_rfl) (h_free rfl) 106 ?_ ?_ ?_; rotate_left; (focus (go_simp; rfl)))
    refine (HI.out wd.heap.size wh (B2.out.trans (DH.out.mono B2.out.size)) RH.out).mono ?_
    rintro x wi ⟨rfl, hbi⟩
    have DI := Lib.hid (DH.out.trans (hbi.mono DH.out.size))
    clear hbi
    refine ⟨_, rfl, DI.out, ?_⟩
    go_simp
    (refine h_read 5 rfl (by kernel_rfl) (by kernel_rfl) (h_free rfl) ?_ ?_ ?_; rotate_left; (focus (intro v hv; go_simp; rfl)); go_simp)
    refine h_done (by kernel_rfl) ?_
    have R1I := Lib.hid (R12.out.below DI.out R12.out.lt)
    have R2I := Lib.hid (R22.out.below DI.out R22.out.lt)
    have BI := Lib.hid (B2.out.trans (DI.out.mono B2.out.size))
    obtain ⟨d0, d1, d2, d3, d4⟩ := R1I.out.l5
    clear c4 d0 d1 d2 d3
    go_wp2_with (first
      | ((with_reducible refine build_row (o := ⟨some 14, _, _, _, _, _⟩) rfl _ _ rfl (Hd.cells hdZ) ?_ ?_); (focus (go_simp; kernel_rfl)))
      | ((with_reducible refine store_row (o := ⟨none, _, _, _, _, _⟩) rfl _ (.tmp 4) _ rfl w1.heap.size (Hd.cells hdZ) ?_ ?_ 52 _ R2I.out ?_ ?_ ?_ ?_); (focus go_simp); (focus (first | (go_simp; done) | (go_simp; rfl))); (focus (exact SZ.out)); (focus rfl); (focus (exact hd_one _)); intro w9 hr2 hu2; have R29 := Lib.hid hr2; have B9 := Lib.hid (BI.out.trans (hu2.below B1.out.size)); clear hr2 hu2))
    exact bodyPost_ret (results_row_tmp rfl _ _ w1.heap.size 52 _ _ _ (by go_simp) R29.out Try.underlying52 rfl SZ.out) rfl ⟨by rw [HF.out]; rfl, B9.out⟩
  · have HF := Lib.hid h4
    have HI := Lib.hid (fun g w' (hb : Below w.heap.size w w') hg => hidx_at id g a n c L w' (h.mono hdOk hb) hg k y h1 h2 h3)
    have hkn : k < n := by rw [← h.hlen]; exact (List.getElem?_eq_some_iff.1 h1).1
    have HY := Lib.hid h1
    have g1 : (0 : Int) ≤ (k : Int) := by omega
    have g2 : (k : Int) < (n : Int) := by omega
    have g3 : ¬ ((k : Int) < 0) := by omega
    clear h h1 h2 h3 h4
    go_enter Try.func46, Try.ntmps46
    go_wp2_with (first
      | ((with_reducible refine box_row (o := ⟨some 2, _, _, _, _, _⟩) rfl _ _ rfl (ldC q u h' nx a n c) rfl ?_); intro w1 hr hb hz; have R1 := Lib.hid hr; have B1 := Lib.hid hb; clear hr hb hz)
      | ((with_reducible refine alloc_row (o := ⟨some 4, _, _, _, _, _⟩) rfl _ rfl _ MZ.out ?_); intro w2 hr hb hz; have R22 := Lib.hid hr; have R12 := Lib.hid (R1.out.below hb R1.out.lt); obtain ⟨c0, c1, c2, c3, c4⟩ := R12.out.l5; clear c0 c1 c2 c3; have B2 := Lib.hid (B1.out.trans (hb.mono B1.out.size)); clear hr hb hz))
    have c4 := Lib.hid c4
    refine region_h (fun v => Below w2.heap.size w2 v) (by kernel_rfl) (by kernel_rfl) (Below.refl _ _).drew ?_
    obtain ⟨wd, hwd⟩ : ∃ wd, w2.drew = wd := ⟨_, rfl⟩
    have D0 : Hid (Below w2.heap.size w2 wd) := Lib.hid (by rw [← hwd]; exact (Below.refl _ _).drew)
    rw [hwd]
    clear hwd
    (refine h_read 0 rfl (by kernel_rfl) (by kernel_rfl) (h_free rfl) ?_ ?_ ?_; rotate_left; (focus (intro v hv; go_simp; rfl)); go_simp)
    (refine h_read 1 rfl (by kernel_rfl) (by kernel_rfl) (h_free rfl) ?_ ?_ ?_; rotate_left; (focus (intro v hv; have q0 := (hv.cell (p := ⟨w.heap.size, 4, none⟩) R12.out.lt).trans c4.out; go_simp; rfl)); go_simp)
    (refine h_read 2 rfl (by kernel_rfl) (by kernel_rfl) (h_free rfl) ?_ ?_ ?_; rotate_left; (focus (intro v hv; go_simp; rfl)); go_simp)
    (refine h_call 3 rfl (by kernel_rfl) (h_free rfl) 107 ?_ ?_ ?_; rotate_left; (focus (go_simp; rfl)))
    refine (phasid id wd).mono ?_
    rintro x wh ⟨rfl, hrh, hbh⟩
    have RH := Lib.hid hrh
    have DH := Lib.hid (D0.out.trans (hbh.mono D0.out.size))
    clear hrh hbh
    refine ⟨_, rfl, DH.out, ?_⟩
    go_simp
    (refine h_call 4 rfl (by kernel_rfl) (h_free rfl) 106 ?_ ?_ ?_; rotate_left; (focus (go_simp; rfl)))
    refine (HI.out wd.heap.size wh (B2.out.trans (DH.out.mono B2.out.size)) RH.out).mono ?_
    rintro x wi ⟨rfl, hbi⟩
    have DI := Lib.hid (DH.out.trans (hbi.mono DH.out.size))
    clear hbi
    refine ⟨_, rfl, DI.out, ?_⟩
    go_simp
    (refine h_read 5 rfl (by kernel_rfl) (by kernel_rfl) (h_free rfl) ?_ ?_ ?_; rotate_left; (focus (intro v hv; go_simp; rfl)); go_simp)
    refine h_done (by kernel_rfl) ?_
    have R1I := Lib.hid (R12.out.below DI.out R12.out.lt)
    have R2I := Lib.hid (R22.out.below DI.out R22.out.lt)
    have BI := Lib.hid (B2.out.trans (DI.out.mono B2.out.size))
    obtain ⟨d0, d1, d2, d3, d4⟩ := R1I.out.l5
    clear c4 d0 d1 d2 d3
    obtain ⟨b, off, x, rfl, hx, hcell, -⟩ := H.out.at hdOk BI.out k hkn
    obtain rfl : x = y := by rw [HY.out] at hx; exact (Option.some.inj hx).symm
    obtain ⟨i1, i2, i3, i4, i5, sp⟩ := x
    have XC := Lib.hid hcell
    clear hcell hx
    go_wp2_with (first
      | ((with_reducible refine load_cells (o := ⟨some 19, _, _, _, _, _⟩) rfl _ _ rfl b (off + k * 6) ?_ [.int .i64 i1, .int .i64 i2, .int .i64 i3, .int .i64 i4, .int .i64 i5, .string sp] _ XC.out Try.underlying52 rfl ?_ ?_); (focus go_simp); (focus (exact SZ.out)))
      | ((with_reducible refine store_row (o := ⟨none, _, _, _, _, _⟩) rfl _ (.tmp 4) _ rfl w1.heap.size ([.int .i64 i1, .int .i64 i2, .int .i64 i3, .int .i64 i4, .int .i64 i5, .string sp]) ?_ ?_ 52 _ R2I.out ?_ ?_ ?_ ?_); (focus go_simp); (focus (first | (go_simp; done) | (go_simp; rfl))); (focus (exact SZ.out)); (focus rfl); (focus (exact hd_one ⟨i1, i2, i3, i4, i5, sp⟩)); intro w9 hr2 hu2; have R29 := Lib.hid hr2; have B9 := Lib.hid (BI.out.trans (hu2.below B1.out.size)); clear hr2 hu2))
    exact bodyPost_ret (results_row_tmp rfl _ _ w1.heap.size 52 _ _ _ (by go_simp) R29.out Try.underlying52 rfl SZ.out) rfl ⟨by rw [HF.out]; rfl, B9.out⟩
end Go.Proofs.Ytiopcojkdglapaa.W

namespace Go.Proofs.Ytiopcojkdglapaa.W
open Go Go.ChangeShapes Go.WideShapes Go.ChangeAt Go.RowKit
open Go.Proofs.Ytiopcojkdglapaa.P (enc dec)
open Go.Proofs.Ytiopcojkdglapaa.S

theorem hd_z1 : (madeCells (Hd.cells hdZ).toArray ((0 + 1) * (Hd.cells hdZ).toArray.size)).toList = Hd.cells hdZ := by kernel_rfl
set_option maxRecDepth 100000 in
set_option maxHeartbeats 16000000 in
theorem hddelete (base g n c k : Nat) (L : List Hd) (w : World) (h : LsO hdE w base (.slice (some ⟨g, 0, none⟩) n c) L) (hn : L.length = n) (hk : k < n) (hn8 : n ≤ 1000) :
    Calls Try.prog 110 #[.slice (some ⟨g, 0, none⟩) n c, .int .i64 (k : Int), .int .i64 ((k : Int) + 1)] w fun x w' => x = .returned (.slice (some ⟨g, 0, none⟩) (n - 1) c) ∧ LsO hdE w' base (.slice (some ⟨g, 0, none⟩) (n - 1) c) (L.take k ++ L.drop (k + 1)) ∧ Upd w w' g := by
  obtain ⟨hfl, h2⟩ := h
  rcases h2 with ⟨e, -⟩ | ⟨g', cap, cur, e, hg, hh, hnc, hm, hsz, ht⟩
  · cases e
  injection e with e1 e2 e3
  injection e1 with e1
  injection e1 with e1
  subst e1 e3
  rw [hn] at hnc ht
  obtain ⟨R, hR⟩ : ∃ R, cur.toList = R := ⟨_, rfl⟩
  have RW := Lib.hid (show Row w g 52 R by unfold Row; rw [← hR]; exact hh)
  have HRL := Lib.hid (show R.length = c * 6 by rw [← hR]; simpa using hsz)
  have HT := Lib.hid (show R.take (n * hdE.k) = flatE hdE L by rw [← hR]; exact ht)
  have HL := Lib.hid hn
  have HM := Lib.hid hm
  have HG := Lib.hid hg
  have hmm : c ≤ 9223372036854775807 := by unfold maxLen at hm; omega
  clear hfl hg hh hm hsz ht hR hn e2
  have q1 : (0 : Int) ≤ (k : Int) := by omega
  have q2 : (k : Int) < (n : Int) := by omega
  have q3 : (n : Int) ≤ (c : Int) := by omega
  have q4 : ((k : Int) == (k : Int) + 1) = false := beq_eq_false_iff_ne.2 (by omega)
  have q5 : (k : Int) + 1 ≤ (n : Int) := by omega
  have q6 : k ≤ c := by omega
  have q7 : k + 1 ≤ n := hk
  have q8 : k + 1 ≤ c := by omega
  have wk : IntKind.i64.wrap ((k : Int) + 1) = (k : Int) + 1 := by rw [IntKind.wrap_i64]; omega
  have tk : ((k : Int) + 1).toNat = k + 1 := by omega
  go_enter Try.func110, Try.ntmps110
  go_wp2_with fail
  obtain ⟨o5, ho5, hs5⟩ : ∃ o5, (if c = k + 1 then some (⟨g, 0, none⟩ : Addr) else some ⟨g, (k + 1) * 6, none⟩) = some ⟨g, o5, none⟩ ∧ ∀ j u, (flatE hdE (L.drop (k + 1)))[j]? = some u → R[o5 + j]? = some u := by
    by_cases hc : c = k + 1
    · refine ⟨0, if_pos hc, fun j u h => ?_⟩
      rw [List.drop_of_length_le (by rw [HL.out]; omega)] at h
      simp [flatE] at h
    · refine ⟨(k + 1) * 6, if_neg hc, fun j u h => ?_⟩
      rw [← flatE_drop hdOk L (k + 1) (by rw [HL.out]; omega), ← HT.out, List.getElem?_drop, List.getElem?_take] at h
      split at h
      · exact h
      · cases h
  have H5 := Lib.hid ho5
  have HS5 := Lib.hid hs5
  clear ho5 hs5
  refine region_h (fun v => True) (by kernel_rfl) (by kernel_rfl) trivial ?_
  have UD : Hid (Upd w w.drew g) := Lib.hid ⟨rfl, rfl, rfl, rfl, fun _ _ => rfl⟩
  obtain ⟨wd, hwd⟩ : ∃ wd, w.drew = wd := ⟨_, rfl⟩
  have RD := Lib.hid (show Row wd g 52 R by rw [← hwd]; exact RW.out.drewN 1)
  rw [hwd] at UD ⊢
  clear hwd
  (refine h_read 0 rfl (by kernel_rfl) (by kernel_rfl) (h_free rfl) ?_ ?_ ?_; rotate_left; (focus (intro v hv; go_simp; rfl)); go_simp)
  (refine h_read 1 rfl (by kernel_rfl) (by kernel_rfl) (h_free rfl) ?_ ?_ ?_; rotate_left; (focus (intro v hv; go_simp; rfl)); go_simp)
  (refine h_read 2 rfl (by kernel_rfl) (by kernel_rfl) (h_free rfl) ?_ ?_ ?_; rotate_left; (focus (intro v hv; go_simp; rfl)); go_simp)
  (refine h_read 3 rfl (by kernel_rfl) (by kernel_rfl) (h_free rfl) ?_ ?_ ?_; rotate_left; (focus (intro v hv; go_simp; rfl)); go_simp)
  (refine h_read 4 rfl (by kernel_rfl) (by kernel_rfl) (h_free rfl) ?_ ?_ ?_; rotate_left; (focus (intro v hv; go_simp; rfl)); go_simp)
  (refine h_read 5 rfl (by kernel_rfl) (by kernel_rfl) (h_free rfl) ?_ ?_ ?_; rotate_left; (focus (intro v hv; go_simp; rfl)); go_simp)
  (refine h_list 6 rfl (by kernel_rfl) ?_; intro K hK)
  refine append_in hdOk rfl _ _ rfl g k c R (by go_simp) RD.out HRL.out ⟨g, o5, none⟩ (n - (k + 1)) (c - (k + 1)) (flatE hdE (L.drop (k + 1))) (by go_simp; first | done | exact H5.out | (rw [H5.out]) | (simp [H5.out])) (by rw [flatE_len hdOk, List.length_drop, HL.out]) (fun j u hj => by rw [Go.WideShapes.add_plain, RD.out.cellV]; exact HS5.out j u hj) (flatE_one hdOk _) (by omega) ?_
  intro w5 hr5 hu5
  obtain ⟨n1, hn1⟩ : ∃ m, k + (n - (k + 1)) = m := ⟨_, rfl⟩
  rw [hn1]
  have hn2 : n1 + 1 = n := by omega
  have R5 := Lib.hid hr5
  have U5 := Lib.hid (UD.out.trans hu5)
  clear hr5 hu5 hn1
  refine hK _ _ trivial ?_
  go_simp
  (refine h_read 7 rfl (by kernel_rfl) (by kernel_rfl) (h_free rfl) ?_ ?_ ?_; rotate_left; (focus (intro v hv; go_simp; rfl)); go_simp)
  refine h_done (by kernel_rfl) ?_
  have f1 : (0 : Int) ≤ (n1 : Int) := by omega
  have f2 : (n1 : Int) ≤ (n : Int) := by omega
  have f3 : n1 ≤ n := by omega
  have f4 : ¬ c = n1 := by omega
  have HN1 := Lib.hid hn2
  have hnn : n - n1 = 0 + 1 := by omega
  clear hn2 q1 q2 q4 q5 q6 q7 q8 wk tk
  (try rw [H5.out])
  obtain ⟨R2, hR2⟩ : ∃ R2, splice R (k * 6) (flatE hdE (L.drop (k + 1))) = R2 := ⟨_, rfl⟩
  have hdr := del_row hdOk R L n c k (Hd.cells hdZ) HL.out hk hnc HRL.out HT.out rfl
  rw [show k * hdE.k = k * 6 from rfl, hR2, show n - 1 = n1 by omega] at hdr
  have HDR := Lib.hid hdr
  have HR2L := Lib.hid (show R2.length = c * 6 by rw [← hR2, dl_len _ _ _ (by rw [flatE_len hdOk, List.length_drop, HL.out, HRL.out, show hdE.k = 6 from rfl]; omega)]; exact HRL.out)
  rw [hR2] at R5
  clear hdr hR2
  go_wp2_with ((with_reducible refine clear_in (o := ⟨none, _, _, _, _, _⟩) rfl _ 48 rfl 52 (Hd.cells hdZ).toArray g (n1 * 6) 0 (c - n1) 52 R2 ?_ Try.underlying48 hd_zero R5.out ?_ ?_ ?_); (focus (first | (go_simp; done) | rfl)); (focus (rw [HR2L.out, show (Hd.cells hdZ).toArray.size = 6 from rfl]; omega)); (focus (rw [hd_z1]; exact hd_one hdZ)); intro w6 hr hu; rw [hd_z1] at hr; have R6 := Lib.hid hr; have U6 := Lib.hid (U5.out.trans hu); clear hr hu)
  go_ret
  refine ⟨by rw [show n - 1 = n1 by omega]; rfl, ?_, U6.out⟩
  rw [show n - 1 = n1 by omega]
  have hll : (L.take k ++ L.drop (k + 1)).length = n1 := by rw [List.length_append, List.length_take, List.length_drop, HL.out]; omega
  refine ⟨by rw [flatE_len hdOk], .inr ⟨g, c, (splice R2 (n1 * 6) (Hd.cells hdZ)).toArray, by rw [hll], HG.out, R6.out, by rw [hll]; omega, HM.out, ?_, ?_⟩⟩
  · rw [List.size_toArray]; exact HDR.out.2
  · rw [hll]; exact HDR.out.1
theorem lso_ptr {α : Type} {E : El α} {w : World} {base : Nat} {a : Option Addr} {n c : Nat} {L : List α} (h : LsO E w base (.slice a n c) L) (hn : 0 < n) : ∃ g, a = some ⟨g, 0, none⟩ ∧ base ≤ g ∧ g < w.heap.size ∧ n ≤ c ∧ c ≤ maxLen := by
  have hlt := World.ownsRow.lt h
  obtain ⟨-, h2⟩ := h
  rcases h2 with ⟨e, -⟩ | ⟨g, cap, cur, e, hg, hh, hnc, hm, -⟩
  · injection e with e1 e2 e3; omega
  · injection e with e1 e2 e3
    subst e1 e2 e3
    exact ⟨g, rfl, hg, (hlt g rfl).2, hnc, hm⟩
set_option maxRecDepth 100000 in
set_option maxHeartbeats 16000000 in
theorem prelease : LdReleaseP 51 := by
  intro v l id w h hok
  obtain ⟨a, n, c, rfl, h⟩ := h
  have hn8 : n ≤ 8 := by rw [← h.hlen]; exact hok.len
  have hu := hok.u
  have hq := hok.q
  have hh := hok.h
  have hle := hok.le
  have hfb := fun i => found_by (i := i) hok
  obtain ⟨q, u, h', nx, L⟩ := l
  dsimp only at h hok hu hq hh hle ⊢
  have LZS := Lib.hid ld_size
  have LZ := Lib.hid ld_zero
  have H := Lib.hid h
  have HL := Lib.hid h.hlen
  have HF := Lib.hid (h.hfit)
  have HC := Lib.hid (fun w' h => pown q u h' nx a n c L w' h (by omega))
  dsimp only at hfb
  clear hok h
  have HA := Lib.hid (show Ld.release ⟨q, u, h', nx, L⟩ id = if (findH L id).2 = false then (⟨q, u, h', nx, L⟩, 6) else (⟨q, u, h' - (findH L id).1.by', nx, dropH L id⟩, 0) from rfl)
  rcases find_or id L with ⟨h0, h1⟩ | ⟨k, y, h1, h2, h3, h4, h5⟩
  · have H1 := Lib.hid h1
    rw [HA.out, h0]
    simp only [if_true]
    clear hfb h0 h1 HA
    go_enter Try.func51, Try.ntmps51
    go_wp2_with (first
      | ((with_reducible refine box_row (o := ⟨some 2, _, _, _, _, _⟩) rfl _ _ rfl (ldC q u h' nx a n c) rfl ?_); intro w1 hr hb hz; have R1 := Lib.hid hr; have B1 := Lib.hid hb; have HZ1 := Lib.hid hz; have B1S := Lib.hid (show w.heap.size < w1.heap.size by omega); clear hr hb hz)
      | ((with_reducible refine alloc_row (o := ⟨some 4, _, _, _, _, _⟩) rfl _ rfl _ LZ.out ?_); intro w2 hr hb hz; have R2 := Lib.hid hr; have R1 := Lib.hid (R1.out.below hb R1.out.lt); have B2 := Lib.hid (B1.out.trans (hb.mono B1.out.size)); have HZ2 := Lib.hid hz; clear hr hb hz)
      | ((with_reducible refine load_row (o := ⟨some 7, _, _, _, _, _⟩) rfl _ _ rfl w.heap.size ?_ _ (ldC q u h' nx a n c) _ R1.out Try.underlying50 rfl ?_ ?_); (focus go_simp); (focus (exact LZS.out)))
      | (go_at_call 109; (with_reducible refine (HC.out w2 (H.out.mono hdOk B2.out)).mono ?_); rintro x w3 ⟨a3, c3, rfl, hown, hb⟩; have O3s := Lib.hid hown; have R13 := Lib.hid (R1.out.below hb R1.out.lt); have R23 := Lib.hid (R2.out.below hb R2.out.lt); have B3 := Lib.hid (B2.out.trans (hb.mono B2.out.size)); clear hown hb)
      | ((with_reducible refine store_row (o := ⟨none, _, _, _, _, _⟩) rfl _ (.tmp 2) _ rfl w.heap.size (ldC q u h' nx a3 n c3) ?_ ?_ 50 _ R13.out ?_ ?_ ?_ ?_); (focus go_simp); (focus (first | (go_simp; done) | (go_simp; rfl))); (focus (exact LZS.out)); (focus rfl); (focus (exact ld_one _ _ _ _ _ _ _)); intro w4 hr4 hu4; have R14 := Lib.hid hr4; obtain ⟨c0, c1, c2, c3', c4⟩ := hr4.l5; have R24 := Lib.hid (R23.out.upd hu4 (Nat.ne_of_gt B1S.out)); have O4 := Lib.hid (O3s.out.upd_lt hu4 R1.out.lt); have B4 := Lib.hid (B3.out.trans (hu4.below (Nat.le_refl _))); clear hr4 hu4))
    have c4 := Lib.hid c4
    clear c0 c1 c2 c3'
    refine region_h (fun v => Below w4.heap.size w4 v) (by kernel_rfl) (by kernel_rfl) (Below.refl _ _).drew ?_
    obtain ⟨wd, hwd⟩ : ∃ wd, w4.drew = wd := ⟨_, rfl⟩
    have D0 : Hid (Below w4.heap.size w4 wd) := Lib.hid (by rw [← hwd]; exact (Below.refl _ _).drew)
    rw [hwd]
    clear hwd
    (refine h_read 0 rfl (by kernel_rfl) (by kernel_rfl) (h_free rfl) ?_ ?_ ?_; rotate_left; (focus (intro v hv; go_simp; rfl)); go_simp)
    (refine h_read 1 rfl (by kernel_rfl) (by kernel_rfl) (h_free rfl) ?_ ?_ ?_; rotate_left; (focus (intro v hv; have q0 := (hv.cell (p := ⟨w.heap.size, 4, none⟩) R14.out.lt).trans c4.out; go_simp; rfl)); go_simp)
    (refine h_read 2 rfl (by kernel_rfl) (by kernel_rfl) (h_free rfl) ?_ ?_ ?_; rotate_left; (focus (intro v hv; go_simp; rfl)); go_simp)
    (refine h_call 3 rfl (by kernel_rfl) (h_free rfl) 107 ?_ ?_ ?_; rotate_left; (focus (go_simp; rfl)))
    refine (phasid id wd).mono ?_
    rintro x wh ⟨rfl, hrh, hbh⟩
    have RH := Lib.hid hrh
    have DH := Lib.hid (D0.out.trans (hbh.mono D0.out.size))
    clear hrh hbh
    refine ⟨_, rfl, DH.out, ?_⟩
    go_simp
    (refine h_call 4 rfl (by kernel_rfl) (h_free rfl) 106 ?_ ?_ ?_; rotate_left; (focus (go_simp; rfl)))
    refine (hidx_no id wd.heap.size a3 n c3 L wh (hd_out (O4.out.kept DH.out) HL.out HF.out) RH.out H1.out).mono ?_
    rintro x wi ⟨rfl, hbi⟩
    have DI := Lib.hid (DH.out.trans (hbi.mono DH.out.size))
    clear hbi
    refine ⟨_, rfl, DI.out, ?_⟩
    go_simp
    (refine h_read 5 rfl (by kernel_rfl) (by kernel_rfl) (h_free rfl) ?_ ?_ ?_; rotate_left; (focus (intro v hv; go_simp; rfl)); go_simp)
    refine h_done (by kernel_rfl) ?_
    have R1I := Lib.hid (R14.out.below DI.out R14.out.lt)
    have R2I := Lib.hid (R24.out.below DI.out R24.out.lt)
    have OI := Lib.hid (O4.out.kept DI.out)
    have BI := Lib.hid (B4.out.trans (DI.out.mono B4.out.size))
    obtain ⟨d0, d1, d2, d3, d4⟩ := R1I.out.l5
    clear c4
    go_wp2_with (first
      | ((with_reducible refine load_row (o := ⟨some 16, _, _, _, _, _⟩) rfl _ _ rfl w.heap.size ?_ _ (ldC q u h' nx a3 n c3) _ R1I.out Try.underlying50 rfl ?_ ?_); (focus go_simp); (focus (exact LZS.out)))
      | ((with_reducible refine store_row (o := ⟨none, _, _, _, _, _⟩) rfl _ (.tmp 4) _ rfl w1.heap.size (ldC q u h' nx a3 n c3) ?_ ?_ 50 _ R2I.out ?_ ?_ ?_ ?_); (focus go_simp); (focus (first | (go_simp; done) | (go_simp; rfl))); (focus (exact LZS.out)); (focus rfl); (focus (exact ld_one _ _ _ _ _ _ _)); intro w9 hr9 hu9; have R29 := Lib.hid hr9; have O9 := Lib.hid (OI.out.upd_lt hu9 R2.out.lt); have B9 := Lib.hid (BI.out.trans (hu9.below B1.out.size)); clear hr9 hu9))
    exact bodyPost_ret (results_row_tmp rfl _ _ w1.heap.size 50 _ _ _ (by go_simp) R29.out Try.underlying50 rfl LZS.out) rfl ⟨_, rfl, ⟨_, _, _, rfl, (hd_out O9.out HL.out HF.out)⟩, B9.out⟩
  · have hb := hfb id (by rw [h4])
    rw [h4] at hb
    dsimp only at hb
    have HY := Lib.hid h1
    have HI := Lib.hid (fun g a c w' hl hg => hidx_at id g a n c L w' hl hg k y h1 h2 h3)
    have hkn : k < n := by rw [← HL.out]; exact (List.getElem?_eq_some_iff.1 h1).1
    have HDL := Lib.hid (show (L.take k ++ L.drop (k + 1)).length = n - 1 by rw [List.length_append, List.length_take, List.length_drop, HL.out]; omega)
    have HFD := Lib.hid (show ∀ x ∈ L.take k ++ L.drop (k + 1), x.fit from fun x hx => (List.mem_append.1 hx).elim (fun hx => HF.out x (List.mem_of_mem_take hx)) (fun hx => HF.out x (List.mem_of_mem_drop hx)))
    rw [HA.out, h4, h5]
    simp only [Bool.true_eq_false, if_false]
    obtain ⟨y1, y2, y3, y4, y5, ys⟩ := y
    dsimp only at hb ⊢
    have g1 : (0 : Int) ≤ (k : Int) := by omega
    have g2 : (k : Int) < (n : Int) := by omega
    have g3 : ¬ ((k : Int) < 0) := by omega
    have hwr : IntKind.i64.wrap (h' - y3) = h' - y3 := by rw [IntKind.wrap_i64]; omega
    clear hfb h1 h2 h3 h4 h5 HA
    go_enter Try.func51, Try.ntmps51
    go_wp2_with (first
      | ((with_reducible refine box_row (o := ⟨some 2, _, _, _, _, _⟩) rfl _ _ rfl (ldC q u h' nx a n c) rfl ?_); intro w1 hr hb hz; have R1 := Lib.hid hr; have B1 := Lib.hid hb; have HZ1 := Lib.hid hz; have B1S := Lib.hid (show w.heap.size < w1.heap.size by omega); clear hr hb hz)
      | ((with_reducible refine alloc_row (o := ⟨some 4, _, _, _, _, _⟩) rfl _ rfl _ LZ.out ?_); intro w2 hr hb hz; have R2 := Lib.hid hr; have R1 := Lib.hid (R1.out.below hb R1.out.lt); have B2 := Lib.hid (B1.out.trans (hb.mono B1.out.size)); have HZ2 := Lib.hid hz; clear hr hb hz)
      | ((with_reducible refine load_row (o := ⟨some 7, _, _, _, _, _⟩) rfl _ _ rfl w.heap.size ?_ _ (ldC q u h' nx a n c) _ R1.out Try.underlying50 rfl ?_ ?_); (focus go_simp); (focus (exact LZS.out)))
      | (go_at_call 109; (with_reducible refine (HC.out w2 (H.out.mono hdOk B2.out)).mono ?_); rintro x w3 ⟨a3, c3, rfl, hown, hb⟩; have O3s := Lib.hid hown; have R13 := Lib.hid (R1.out.below hb R1.out.lt); have R23 := Lib.hid (R2.out.below hb R2.out.lt); have B3 := Lib.hid (B2.out.trans (hb.mono B2.out.size)); clear hown hb)
      | ((with_reducible refine store_row (o := ⟨none, _, _, _, _, _⟩) rfl _ (.tmp 2) _ rfl w.heap.size (ldC q u h' nx a3 n c3) ?_ ?_ 50 _ R13.out ?_ ?_ ?_ ?_); (focus go_simp); (focus (first | (go_simp; done) | (go_simp; rfl))); (focus (exact LZS.out)); (focus rfl); (focus (exact ld_one _ _ _ _ _ _ _)); intro w4 hr4 hu4; have R14 := Lib.hid hr4; obtain ⟨c0, c1, c2, c3', c4⟩ := hr4.l5; have R24 := Lib.hid (R23.out.upd hu4 (Nat.ne_of_gt B1S.out)); have O4 := Lib.hid (O3s.out.upd_lt hu4 R1.out.lt); have B4 := Lib.hid (B3.out.trans (hu4.below (Nat.le_refl _))); clear hr4 hu4))
    obtain ⟨g, rfl, hgb, hgl, hgc, hgm⟩ := lso_ptr O4.out (by omega)
    have HGB := Lib.hid hgb
    have hgm : c3 ≤ 9223372036854775807 := by unfold maxLen at hgm; omega
    clear hgb hgl
    have c4 := Lib.hid c4
    clear c0 c1 c2 c3'
    refine region_h (fun v => Below w4.heap.size w4 v) (by kernel_rfl) (by kernel_rfl) (Below.refl _ _).drew ?_
    obtain ⟨wd, hwd⟩ : ∃ wd, w4.drew = wd := ⟨_, rfl⟩
    have D0 : Hid (Below w4.heap.size w4 wd) := Lib.hid (by rw [← hwd]; exact (Below.refl _ _).drew)
    rw [hwd]
    clear hwd
    (refine h_read 0 rfl (by kernel_rfl) (by kernel_rfl) (h_free rfl) ?_ ?_ ?_; rotate_left; (focus (intro v hv; go_simp; rfl)); go_simp)
    (refine h_read 1 rfl (by kernel_rfl) (by kernel_rfl) (h_free rfl) ?_ ?_ ?_; rotate_left; (focus (intro v hv; have q0 := (hv.cell (p := ⟨w.heap.size, 4, none⟩) R14.out.lt).trans c4.out; go_simp; rfl)); go_simp)
    (refine h_read 2 rfl (by kernel_rfl) (by kernel_rfl) (h_free rfl) ?_ ?_ ?_; rotate_left; (focus (intro v hv; go_simp; rfl)); go_simp)
    (refine h_call 3 rfl (by kernel_rfl) (h_free rfl) 107 ?_ ?_ ?_; rotate_left; (focus (go_simp; rfl)))
    refine (phasid id wd).mono ?_
    rintro x wh ⟨rfl, hrh, hbh⟩
    have RH := Lib.hid hrh
    have DH := Lib.hid (D0.out.trans (hbh.mono D0.out.size))
    clear hrh hbh
    refine ⟨_, rfl, DH.out, ?_⟩
    go_simp
    (refine h_call 4 rfl (by kernel_rfl) (h_free rfl) 106 ?_ ?_ ?_; rotate_left; (focus (go_simp; rfl)))
    refine (HI.out wd.heap.size _ c3 wh (hd_out (O4.out.kept DH.out) HL.out HF.out) RH.out).mono ?_
    rintro x wi ⟨rfl, hbi⟩
    have DI := Lib.hid (DH.out.trans (hbi.mono DH.out.size))
    clear hbi
    refine ⟨_, rfl, DI.out, ?_⟩
    go_simp
    (refine h_read 5 rfl (by kernel_rfl) (by kernel_rfl) (h_free rfl) ?_ ?_ ?_; rotate_left; (focus (intro v hv; go_simp; rfl)); go_simp)
    refine h_done (by kernel_rfl) ?_
    have R1I := Lib.hid (R14.out.below DI.out R14.out.lt)
    have R2I := Lib.hid (R24.out.below DI.out R24.out.lt)
    have OI := Lib.hid (O4.out.kept DI.out)
    have BI := Lib.hid (B4.out.trans (DI.out.mono B4.out.size))
    obtain ⟨d0, d1, d2, d3, d4⟩ := R1I.out.l5
    clear c4
    have d2 := Lib.hid d2
    have d4 := Lib.hid d4
    clear d0 d1 d3
    obtain ⟨b', off', x', hab, hx', hcell', -⟩ := (hd_out OI.out HL.out HF.out).at hdOk (Below.refl _ _) k hkn
    obtain ⟨rfl, rfl⟩ : g = b' ∧ 0 = off' := by injection hab with hab; injection hab with e1 e2; exact ⟨e1, e2⟩
    obtain rfl : x' = ⟨y1, y2, y3, y4, y5, ys⟩ := by rw [HY.out] at hx'; exact (Option.some.inj hx').symm
    have e2 := Lib.hid (show wi.cell? ⟨g, k * 6 + 2, none⟩ = some (.int .i64 y3) from by have := hcell' 2 _ rfl; rw [show 0 + k * hdE.k + 2 = k * 6 + 2 by rw [Nat.zero_add]] at this; exact this)
    have GL := Lib.hid (show g < wi.heap.size from (World.ownsRow.lt OI.out g rfl).2)
    clear hab hx' hcell'
    go_wp2_with fail
    refine region_t (fun v => Below wi.heap.size wi v) 10 (by kernel_rfl) (by kernel_rfl) (by kernel_rfl) (Below.refl _ _).drew ?_
    obtain ⟨wx, hwx⟩ : ∃ wx, wi.drew = wx := ⟨_, rfl⟩
    have DX : Hid (Below wi.heap.size wi wx) := Lib.hid (by rw [← hwx]; exact (Below.refl _ _).drew)
    rw [hwx]
    clear hwx
    have R1D := Lib.hid (R1I.out.below DX.out R1I.out.lt)
    have R2D := Lib.hid (R2I.out.below DX.out R2I.out.lt)
    have OD := Lib.hid (OI.out.kept DX.out)
    have BD := Lib.hid (BI.out.trans (DX.out.mono BI.out.size))
    (refine t_read 0 rfl (by kernel_rfl) (by kernel_rfl) (by kernel_rfl) (t_free rfl) ?_ ?_ ?_; rotate_left; (focus (intro v hv; go_simp; rfl)); go_simp)
    (refine t_read 1 rfl (by kernel_rfl) (by kernel_rfl) (by kernel_rfl) (t_free rfl) ?_ ?_ ?_; rotate_left; (focus (intro v hv; have q0 := (hv.cell (p := ⟨w.heap.size, 2, none⟩) R1I.out.lt).trans d2.out; have q1 := (hv.cell (p := ⟨w.heap.size, 4, none⟩) R1I.out.lt).trans d4.out; have q2 := (hv.cell (p := ⟨g, k * 6 + 2, none⟩) GL.out).trans e2.out; go_simp; rfl)); go_simp)
    (refine t_read 2 rfl (by kernel_rfl) (by kernel_rfl) (by kernel_rfl) (t_free rfl) ?_ ?_ ?_; rotate_left; (focus (intro v hv; go_simp; rfl)); go_simp)
    (refine t_read 3 rfl (by kernel_rfl) (by kernel_rfl) (by kernel_rfl) (t_free rfl) ?_ ?_ ?_; rotate_left; (focus (intro v hv; have q0 := (hv.cell (p := ⟨w.heap.size, 2, none⟩) R1I.out.lt).trans d2.out; have q1 := (hv.cell (p := ⟨w.heap.size, 4, none⟩) R1I.out.lt).trans d4.out; have q2 := (hv.cell (p := ⟨g, k * 6 + 2, none⟩) GL.out).trans e2.out; go_simp; rfl)); go_simp)
    (refine t_read 4 rfl (by kernel_rfl) (by kernel_rfl) (by kernel_rfl) (t_free rfl) ?_ ?_ ?_; rotate_left; (focus (intro v hv; go_simp; rfl)); go_simp)
    (refine t_read 5 rfl (by kernel_rfl) (by kernel_rfl) (by kernel_rfl) (t_free rfl) ?_ ?_ ?_; rotate_left; (focus (intro v hv; go_simp; rfl)); go_simp)
    (refine t_read 6 rfl (by kernel_rfl) (by kernel_rfl) (by kernel_rfl) (t_free rfl) ?_ ?_ ?_; rotate_left; (focus (intro v hv; go_simp; rfl)); go_simp)
    (refine t_read 7 rfl (by kernel_rfl) (by kernel_rfl) (by kernel_rfl) (t_free rfl) ?_ ?_ ?_; rotate_left; (focus (intro v hv; have q0 := (hv.cell (p := ⟨w.heap.size, 2, none⟩) R1I.out.lt).trans d2.out; have q1 := (hv.cell (p := ⟨w.heap.size, 4, none⟩) R1I.out.lt).trans d4.out; have q2 := (hv.cell (p := ⟨g, k * 6 + 2, none⟩) GL.out).trans e2.out; go_simp; rfl)); go_simp)
    (refine t_read 8 rfl (by kernel_rfl) (by kernel_rfl) (by kernel_rfl) (t_free rfl) ?_ ?_ ?_; rotate_left; (focus (intro v hv; go_simp; rfl)); go_simp)
    (refine t_read 9 rfl (by kernel_rfl) (by kernel_rfl) (by kernel_rfl) (t_free rfl) ?_ ?_ ?_; rotate_left; (focus (intro v hv; go_simp; rfl)); go_simp)
    (refine t_last 10 rfl (by kernel_rfl) rfl (by kernel_rfl) (by kernel_rfl) ?_; intro K hK)
    refine store_cell rfl _ (.tmp 26) _ rfl w.heap.size 2 (.int .i64 (h' - y3)) (by go_simp) (by go_simp; first | done | rfl | exact vint (by omega)) rfl rfl 50 _ R1D.out (by kernel_rfl) (show 2 < 5 by decide) ?_
    intro w7 hr hu
    have R17 := Lib.hid (show Row w7 w.heap.size 50 (ldC q u (h' - y3) nx (some ⟨g, 0, none⟩) n c3) from hr)
    have R27 := Lib.hid (R2D.out.upd hu (Nat.ne_of_gt B1S.out))
    have O7 := Lib.hid (OD.out.upd_lt hu R1.out.lt)
    have B7 := Lib.hid (BD.out.trans (hu.below (Nat.le_refl _)))
    clear hr hu
    refine hK _ _ ?_
    go_simp
    obtain ⟨f0, f1, f2, f3, f4⟩ := R17.out.l5
    clear f0 f1 f2 f3
    go_wp2_with (first
      | (go_at_call 110; (with_reducible refine (hddelete w2.heap.size g n c3 k L w7 O7.out HL.out hkn (by omega)).mono ?_); rintro x w8 ⟨rfl, hown, hu⟩; have O8 := Lib.hid hown; have R18 := Lib.hid (R17.out.upd hu (Nat.ne_of_lt (Nat.lt_of_lt_of_le R1.out.lt HGB.out))); have R28 := Lib.hid (R27.out.upd hu (Nat.ne_of_lt (Nat.lt_of_lt_of_le R2.out.lt HGB.out))); have B8 := Lib.hid (B7.out.trans (hu.below (Nat.le_trans B2.out.size HGB.out))); clear hown hu f4)
      | ((with_reducible refine store_cell (o := ⟨none, _, _, _, _, _⟩) rfl _ (.tmp 33) _ rfl w.heap.size 4 (.slice (some ⟨g, 0, none⟩) (n - 1) c3) ?_ ?_ rfl rfl 50 _ R18.out ?_ ?_ ?_); (focus go_simp); (focus (go_simp; first | done | rfl)); (focus (kernel_rfl)); (focus (show 4 < 5; decide)); intro wA hr hu; have R1A := Lib.hid (show Row wA w.heap.size 50 (ldC q u (h' - y3) nx (some ⟨g, 0, none⟩) (n - 1) c3) from hr); have R2A := Lib.hid (R28.out.upd hu (Nat.ne_of_gt B1S.out)); have OA := Lib.hid (O8.out.upd_lt hu R1.out.lt); have BA := Lib.hid (B8.out.trans (hu.below (Nat.le_refl _))); clear hr hu)
      | ((with_reducible refine load_row (o := ⟨some 34, _, _, _, _, _⟩) rfl _ _ rfl w.heap.size ?_ _ (ldC q u (h' - y3) nx (some ⟨g, 0, none⟩) (n - 1) c3) _ R1A.out Try.underlying50 rfl ?_ ?_); (focus go_simp); (focus (exact LZS.out)))
      | ((with_reducible refine store_row (o := ⟨none, _, _, _, _, _⟩) rfl _ (.tmp 4) _ rfl w1.heap.size (ldC q u (h' - y3) nx (some ⟨g, 0, none⟩) (n - 1) c3) ?_ ?_ 50 _ R2A.out ?_ ?_ ?_ ?_); (focus go_simp); (focus (first | (go_simp; done) | (go_simp; rfl))); (focus (exact LZS.out)); (focus rfl); (focus (exact ld_one _ _ _ _ _ _ _)); intro wB hrB huB; have R2B := Lib.hid hrB; have OB := Lib.hid (OA.out.upd_lt huB R2.out.lt); have BB := Lib.hid (BA.out.trans (huB.below B1.out.size)); clear hrB huB))
    exact bodyPost_ret (results_row_tmp rfl _ _ w1.heap.size 50 _ _ _ (by go_simp) R2B.out Try.underlying50 rfl LZS.out) rfl ⟨_, rfl, ⟨_, _, _, rfl, (hd_out OB.out HDL.out HFD.out)⟩, BB.out⟩
end Go.Proofs.Ytiopcojkdglapaa.W
