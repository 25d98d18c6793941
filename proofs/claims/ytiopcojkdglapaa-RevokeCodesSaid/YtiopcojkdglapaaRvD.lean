/- LAYER 21 (revoke): Same of both, Check of the reference, Read of the program. -/
import Derived.Test.YtiopcojkdglapaaRvC
import Derived.Test.YtiopcojkdglapaaLn
import Derived.Test.YtiopcojkdglapaaLg
set_option linter.unusedSimpArgs false
set_option linter.unusedVariables false
namespace Go.Proofs.Ytiopcojkdglapaa.W
open Go Go.ChangeShapes Go.WideShapes Go.ChangeAt Go.RowKit
open Go.Proofs.Ytiopcojkdglapaa.P (enc dec)
open Go.Proofs.Ytiopcojkdglapaa.S

def Rv.same (a b : Rv) : Bool := decide (a.ep = b.ep) && (decide (a.nx = b.nx) && decide (a.ids = b.ids))
theorem same_refl (a : Rv) : Rv.same a a = true := by simp [Rv.same]
set_option maxRecDepth 100000 in
set_option maxHeartbeats 4000000 in
theorem rwin (n lo hi : Int) (v : Bool) (hv : in64 n lo hi = v) (w : World) : Calls Try.prog 133 #[.int .i64 n, .int .i64 lo, .int .i64 hi] w fun e w' => e = .returned (.bool v) ∧ w = w' := by
  have HV := Lib.hid hv
  by_cases h : lo ≤ n
  · have HA := Lib.hid (show in64 n lo hi = decide (n ≤ hi) by unfold in64; rw [decide_eq_true h]; rfl)
    clear hv
    go_enter Try.func133, Try.ntmps133
    go_wp2_with fail
    go_ret
    exact ⟨one (vbool (by rw [← HV.out, HA.out]; first | done | rfl | simp)), rfl⟩
  · have HA := Lib.hid (show in64 n lo hi = false by unfold in64; rw [decide_eq_false h]; rfl)
    clear hv
    go_enter Try.func133, Try.ntmps133
    go_wp2_with fail
    go_ret
    exact ⟨one (vbool (by rw [← HV.out, HA.out]; first | done | rfl | simp)), rfl⟩
set_option maxRecDepth 100000 in
set_option maxHeartbeats 8000000 in
theorem prsame (ep nx : Int) (a : Option Addr) (n c : Nat) (L : List Int) (ep2 nx2 : Int) (a2 : Option Addr) (n2 c2 : Nat) (M : List Int) (w : World) (h : Sl .i64 w a n L) (h2 : Sl .i64 w a2 n2 M) (hn : n ≤ 1000) (hn2 : n2 ≤ 1000) (q : Bool) (hq : Rv.same ⟨ep, nx, L⟩ ⟨ep2, nx2, M⟩ = q) :
    Calls Try.prog 63 #[.agg (rvC ep nx a n c).toArray, .agg (rvC ep2 nx2 a2 n2 c2).toArray] w fun x w' => x = .returned (.bool q) ∧ Below w.heap.size w w' := by
  have HL := Lib.hid h.1
  have HM := Lib.hid h2.1
  have HQ := Lib.hid hq
  have H := Lib.hid h
  have H2 := Lib.hid h2
  have HE := Lib.hid (fun w' (hb : Below w.heap.size w w') => izequal a a2 n n2 c c2 L M w' (h.mono hb) (h2.mono hb) (by omega) (by omega))
  by_cases e1 : ep = ep2
  · subst e1
    by_cases e2 : nx = nx2
    · subst e2
      have HO := Lib.hid (show Rv.same ⟨ep, nx, L⟩ ⟨ep, nx, M⟩ = decide (L = M) by simp [Rv.same])
      clear h h2 hq
      go_enter Try.func63, Try.ntmps63
      go_wp2_with (first
        | ((with_reducible refine box_row (o := ⟨some 2, _, _, _, _, _⟩) rfl _ _ rfl (rvC ep nx a n c) rfl ?_); intro w1 hr hb hz; have R1 := Lib.hid hr; have B1 := Lib.hid hb; clear hr hb hz)
        | ((with_reducible refine box_row (o := ⟨some 3, _, _, _, _, _⟩) rfl _ _ rfl (rvC ep nx a2 n2 c2) rfl ?_); intro w2 hr hb hz; have R2 := Lib.hid hr; have R12 := Lib.hid (R1.out.below hb R1.out.lt); obtain ⟨c0, c1, c2'⟩ := R12.out.r3; obtain ⟨d0, d1, d2⟩ := hr.r3; have B2 := Lib.hid (B1.out.trans (hb.mono B1.out.size)); clear hr hb hz)
        | (go_at_call 121; (with_reducible refine (HE.out w2 B2.out).mono ?_); rintro x w3 ⟨rfl, hb⟩; have B3 := Lib.hid (B2.out.trans (hb.mono B2.out.size)); clear hb))
      go_ret
      exact ⟨one (vbool (by rw [← HQ.out, HO.out]; first | done | rfl | simp)), B3.out⟩
    · have HO := Lib.hid (show Rv.same ⟨ep, nx, L⟩ ⟨ep, nx2, M⟩ = false by simp [Rv.same, e2])
      have g1 : (nx == nx2) = false := by simpa using e2
      clear h h2 hq
      go_enter Try.func63, Try.ntmps63
      go_wp2_with (first
        | ((with_reducible refine box_row (o := ⟨some 2, _, _, _, _, _⟩) rfl _ _ rfl (rvC ep nx a n c) rfl ?_); intro w1 hr hb hz; have R1 := Lib.hid hr; have B1 := Lib.hid hb; clear hr hb hz)
        | ((with_reducible refine box_row (o := ⟨some 3, _, _, _, _, _⟩) rfl _ _ rfl (rvC ep nx2 a2 n2 c2) rfl ?_); intro w2 hr hb hz; have R2 := Lib.hid hr; have R12 := Lib.hid (R1.out.below hb R1.out.lt); obtain ⟨c0, c1, c2'⟩ := R12.out.r3; obtain ⟨d0, d1, d2⟩ := hr.r3; have B2 := Lib.hid (B1.out.trans (hb.mono B1.out.size)); clear hr hb hz)
        | (go_at_call 121; (with_reducible refine (HE.out w2 B2.out).mono ?_); rintro x w3 ⟨rfl, hb⟩; have B3 := Lib.hid (B2.out.trans (hb.mono B2.out.size)); clear hb))
      go_ret
      exact ⟨one (vbool (by rw [← HQ.out, HO.out]; first | done | rfl | simp)), B2.out⟩
  · have HO := Lib.hid (show Rv.same ⟨ep, nx, L⟩ ⟨ep2, nx2, M⟩ = false by simp [Rv.same, e1])
    have g1 : (ep == ep2) = false := by simpa using e1
    clear h h2 hq
    go_enter Try.func63, Try.ntmps63
    go_wp2_with (first
      | ((with_reducible refine box_row (o := ⟨some 2, _, _, _, _, _⟩) rfl _ _ rfl (rvC ep nx a n c) rfl ?_); intro w1 hr hb hz; have R1 := Lib.hid hr; have B1 := Lib.hid hb; clear hr hb hz)
      | ((with_reducible refine box_row (o := ⟨some 3, _, _, _, _, _⟩) rfl _ _ rfl (rvC ep2 nx2 a2 n2 c2) rfl ?_); intro w2 hr hb hz; have R2 := Lib.hid hr; have R12 := Lib.hid (R1.out.below hb R1.out.lt); obtain ⟨c0, c1, c2'⟩ := R12.out.r3; obtain ⟨d0, d1, d2⟩ := hr.r3; have B2 := Lib.hid (B1.out.trans (hb.mono B1.out.size)); clear hr hb hz)
      | (go_at_call 121; (with_reducible refine (HE.out w2 B2.out).mono ?_); rintro x w3 ⟨rfl, hb⟩; have B3 := Lib.hid (B2.out.trans (hb.mono B2.out.size)); clear hb))
    go_ret
    exact ⟨one (vbool (by rw [← HQ.out, HO.out]; first | done | rfl | simp)), B2.out⟩
set_option maxRecDepth 100000 in
set_option maxHeartbeats 8000000 in
theorem zsame (ep nx : Int) (a : Option Addr) (n c : Nat) (L : List Int) (ep2 nx2 : Int) (a2 : Option Addr) (n2 c2 : Nat) (M : List Int) (w : World) (h : Sl .i64 w a n L) (h2 : Sl .i64 w a2 n2 M) (hn : n ≤ 1000) (hn2 : n2 ≤ 1000) (q : Bool) (hq : Rv.same ⟨ep, nx, L⟩ ⟨ep2, nx2, M⟩ = q) :
    Calls Try.prog 62 #[.agg (rvC ep nx a n c).toArray, .agg (rvC ep2 nx2 a2 n2 c2).toArray] w fun x w' => x = .returned (.bool q) ∧ Below w.heap.size w w' := by
  have HL := Lib.hid h.1
  have HM := Lib.hid h2.1
  have HQ := Lib.hid hq
  have H := Lib.hid h
  have H2 := Lib.hid h2
  by_cases e1 : ep = ep2
  rotate_left
  · have HO := Lib.hid (show Rv.same ⟨ep, nx, L⟩ ⟨ep2, nx2, M⟩ = false by simp [Rv.same, e1])
    have g1 : (ep != ep2) = true := by simpa using e1
    clear h h2 hq
    go_enter Try.func62, Try.ntmps62
    go_wp2_with (first
      | ((with_reducible refine box_row (o := ⟨some 2, _, _, _, _, _⟩) rfl _ _ rfl (rvC ep nx a n c) rfl ?_); intro w1 hr hb hz; have R1 := Lib.hid hr; have B1 := Lib.hid hb; clear hr hb hz)
      | ((with_reducible refine box_row (o := ⟨some 3, _, _, _, _, _⟩) rfl _ _ rfl (rvC ep2 nx2 a2 n2 c2) rfl ?_); intro w2 hr hb hz; have R2 := Lib.hid hr; have R12 := Lib.hid (R1.out.below hb R1.out.lt); obtain ⟨c0, c1, c2'⟩ := R12.out.r3; obtain ⟨d0, d1, d2⟩ := hr.r3; have B2 := Lib.hid (B1.out.trans (hb.mono B1.out.size)); clear hr hb hz))
    go_ret
    exact ⟨one (vbool (by rw [← HQ.out, HO.out]; first | done | rfl | simp)), B2.out⟩
  subst e1
  by_cases e2 : nx = nx2
  rotate_left
  · have HO := Lib.hid (show Rv.same ⟨ep, nx, L⟩ ⟨ep, nx2, M⟩ = false by simp [Rv.same, e2])
    have g1 : (nx != nx2) = true := by simpa using e2
    clear h h2 hq
    go_enter Try.func62, Try.ntmps62
    go_wp2_with (first
      | ((with_reducible refine box_row (o := ⟨some 2, _, _, _, _, _⟩) rfl _ _ rfl (rvC ep nx a n c) rfl ?_); intro w1 hr hb hz; have R1 := Lib.hid hr; have B1 := Lib.hid hb; clear hr hb hz)
      | ((with_reducible refine box_row (o := ⟨some 3, _, _, _, _, _⟩) rfl _ _ rfl (rvC ep nx2 a2 n2 c2) rfl ?_); intro w2 hr hb hz; have R2 := Lib.hid hr; have R12 := Lib.hid (R1.out.below hb R1.out.lt); obtain ⟨c0, c1, c2'⟩ := R12.out.r3; obtain ⟨d0, d1, d2⟩ := hr.r3; have B2 := Lib.hid (B1.out.trans (hb.mono B1.out.size)); clear hr hb hz))
    go_ret
    exact ⟨one (vbool (by rw [← HQ.out, HO.out]; first | done | rfl | simp)), B2.out⟩
  subst e2
  by_cases e3 : n = n2
  rotate_left
  · have HO := Lib.hid (show Rv.same ⟨ep, nx, L⟩ ⟨ep, nx, M⟩ = false by have : L ≠ M := (fun e => e3 (by rw [← h.1, ← h2.1, e])); simp [Rv.same, this])
    have g1 : ((n : Int) != (n2 : Int)) = true := by simp; omega
    clear h h2 hq
    go_enter Try.func62, Try.ntmps62
    go_wp2_with (first
      | ((with_reducible refine box_row (o := ⟨some 2, _, _, _, _, _⟩) rfl _ _ rfl (rvC ep nx a n c) rfl ?_); intro w1 hr hb hz; have R1 := Lib.hid hr; have B1 := Lib.hid hb; clear hr hb hz)
      | ((with_reducible refine box_row (o := ⟨some 3, _, _, _, _, _⟩) rfl _ _ rfl (rvC ep nx a2 n2 c2) rfl ?_); intro w2 hr hb hz; have R2 := Lib.hid hr; have R12 := Lib.hid (R1.out.below hb R1.out.lt); obtain ⟨c0, c1, c2'⟩ := R12.out.r3; obtain ⟨d0, d1, d2⟩ := hr.r3; have B2 := Lib.hid (B1.out.trans (hb.mono B1.out.size)); clear hr hb hz))
    go_ret
    exact ⟨one (vbool (by rw [← HQ.out, HO.out]; first | done | rfl | simp)), B2.out⟩
  subst e3
  have HO := Lib.hid (show Rv.same ⟨ep, nx, L⟩ ⟨ep, nx, M⟩ = decide (L = M) by simp [Rv.same])
  clear h h2 hq
  go_enter Try.func62, Try.ntmps62
  go_wp2_with (first
    | ((with_reducible refine box_row (o := ⟨some 2, _, _, _, _, _⟩) rfl _ _ rfl (rvC ep nx a n c) rfl ?_); intro w1 hr hb hz; have R1 := Lib.hid hr; have B1 := Lib.hid hb; clear hr hb hz)
    | ((with_reducible refine box_row (o := ⟨some 3, _, _, _, _, _⟩) rfl _ _ rfl (rvC ep nx a2 n c2) rfl ?_); intro w2 hr hb hz; have R2 := Lib.hid hr; have R12 := Lib.hid (R1.out.below hb R1.out.lt); obtain ⟨c0, c1, c2'⟩ := R12.out.r3; obtain ⟨d0, d1, d2⟩ := hr.r3; have B2 := Lib.hid (B1.out.trans (hb.mono B1.out.size)); clear hr hb hz))
  go_loopw [5] (fun i wr => ∃ k : Nat, i = .int .i64 (k : Int) ∧ k ≤ n ∧ Hid (L.take k = M.take k) ∧ Hid (Below w2.heap.size w2 wr)) (fun i _ => n - (intOf i).toNat)
  case atStart => exact ⟨0, rfl, Nat.zero_le _, Lib.hid rfl, Lib.hid (Below.refl _ _)⟩
  case round =>
    obtain ⟨k, rfl, hk, HT, B⟩ := hrel
    have RA := Lib.hid (R12.out.below B.out R12.out.lt)
    have RB := Lib.hid (R2.out.below B.out R2.out.lt)
    obtain ⟨k0, k1, k2⟩ := RA.out.r3
    obtain ⟨l0, l1, l2⟩ := RB.out.r3
    by_cases hlt : k < n
    · obtain ⟨b, o, x, rfl, hx, hcx, -⟩ := H.out.at (B2.out.trans (B.out.mono B2.out.size)) k hlt
      obtain ⟨b', o', y, rfl, hy, hcy, -⟩ := H2.out.at (B2.out.trans (B.out.mono B2.out.size)) k hlt
      have LT1 := Lib.hid (World.block_lt_of_cell? wr _ hcx)
      have LT2 := Lib.hid (World.block_lt_of_cell? wr _ hcy)
      have K2 := Lib.hid k2
      have M2 := Lib.hid l2
      have CX := Lib.hid hcx
      have CY := Lib.hid hcy
      have hkl : k < L.length := by rw [HL.out]; exact hlt
      have hkm : k < M.length := by rw [HM.out]; exact hlt
      have ex : L.getD k 0 = x := by simp [hx]
      have ey : M.getD k 0 = y := by simp [hy]
      have g1 : (0 : Int) ≤ (k : Int) := by omega
      have g2 : (k : Int) < (n : Int) := by omega
      by_cases hxy : x = y
      · have HT2 := Lib.hid (take_snoc_eqZ hkl hkm HT.out (by rw [ex, ey]; exact hxy))
        subst hxy
        clear hx hy hcx hcy hkl hkm ex ey k0 k1 l0 l1
        go_wp2_with fail
        refine region_h (fun v => Below wr.heap.size wr v) (by kernel_rfl) (by kernel_rfl) (Below.refl _ _).drew ?_
        obtain ⟨wd, hwd⟩ : ∃ wd, wr.drew = wd := ⟨_, rfl⟩
        have J0 : Hid (Below wr.heap.size wr wd) := Lib.hid (by rw [← hwd]; exact (Below.refl _ _).drew)
        rw [hwd]
        clear hwd
        (refine h_read 0 rfl (by kernel_rfl) (by kernel_rfl) (h_free rfl) ?_ ?_ ?_; rotate_left; (focus (intro v hv; go_simp; rfl)); go_simp)
        (refine h_read 1 rfl (by kernel_rfl) (by kernel_rfl) (h_free rfl) ?_ ?_ ?_; rotate_left; (focus (intro v hv; have x0 := (hv.cell (p := ⟨w.heap.size, 2, none⟩) RA.out.lt).trans K2.out; have x1 := (hv.cell (p := ⟨w1.heap.size, 2, none⟩) RB.out.lt).trans M2.out; have x2 := (hv.cell (p := ⟨b, o + k, none⟩) LT1.out).trans CX.out; have x3 := (hv.cell (p := ⟨b', o' + k, none⟩) LT2.out).trans CY.out; go_simp; rfl)); go_simp)
        (refine h_read 2 rfl (by kernel_rfl) (by kernel_rfl) (h_free rfl) ?_ ?_ ?_; rotate_left; (focus (intro v hv; go_simp; rfl)); go_simp)
        (refine h_read 3 rfl (by kernel_rfl) (by kernel_rfl) (h_free rfl) ?_ ?_ ?_; rotate_left; (focus (intro v hv; go_simp; rfl)); go_simp)
        (refine h_read 4 rfl (by kernel_rfl) (by kernel_rfl) (h_free rfl) ?_ ?_ ?_; rotate_left; (focus (intro v hv; have x0 := (hv.cell (p := ⟨w.heap.size, 2, none⟩) RA.out.lt).trans K2.out; have x1 := (hv.cell (p := ⟨w1.heap.size, 2, none⟩) RB.out.lt).trans M2.out; have x2 := (hv.cell (p := ⟨b, o + k, none⟩) LT1.out).trans CX.out; have x3 := (hv.cell (p := ⟨b', o' + k, none⟩) LT2.out).trans CY.out; go_simp; rfl)); go_simp)
        (refine h_read 5 rfl (by kernel_rfl) (by kernel_rfl) (h_free rfl) ?_ ?_ ?_; rotate_left; (focus (intro v hv; go_simp; rfl)); go_simp)
        (refine h_read 6 rfl (by kernel_rfl) (by kernel_rfl) (h_free rfl) ?_ ?_ ?_; rotate_left; (focus (intro v hv; have x0 := (hv.cell (p := ⟨w.heap.size, 2, none⟩) RA.out.lt).trans K2.out; have x1 := (hv.cell (p := ⟨w1.heap.size, 2, none⟩) RB.out.lt).trans M2.out; have x2 := (hv.cell (p := ⟨b, o + k, none⟩) LT1.out).trans CX.out; have x3 := (hv.cell (p := ⟨b', o' + k, none⟩) LT2.out).trans CY.out; go_simp; rfl)); go_simp)
        (refine h_read 7 rfl (by kernel_rfl) (by kernel_rfl) (h_free rfl) ?_ ?_ ?_; rotate_left; (focus (intro v hv; go_simp; rfl)); go_simp)
        (refine h_read 8 rfl (by kernel_rfl) (by kernel_rfl) (h_free rfl) ?_ ?_ ?_; rotate_left; (focus (intro v hv; go_simp; rfl)); go_simp)
        (refine h_read 9 rfl (by kernel_rfl) (by kernel_rfl) (h_free rfl) ?_ ?_ ?_; rotate_left; (focus (intro v hv; have x0 := (hv.cell (p := ⟨w.heap.size, 2, none⟩) RA.out.lt).trans K2.out; have x1 := (hv.cell (p := ⟨w1.heap.size, 2, none⟩) RB.out.lt).trans M2.out; have x2 := (hv.cell (p := ⟨b, o + k, none⟩) LT1.out).trans CX.out; have x3 := (hv.cell (p := ⟨b', o' + k, none⟩) LT2.out).trans CY.out; go_simp; rfl)); go_simp)
        (refine h_read 10 rfl (by kernel_rfl) (by kernel_rfl) (h_free rfl) ?_ ?_ ?_; rotate_left; (focus (intro v hv; go_simp; rfl)); go_simp)
        refine h_done (by kernel_rfl) ?_
        have JD := Lib.hid (B.out.trans (J0.out.mono B.out.size))
        clear k2 l2
        go_wp2_with fail
        go_roundw
        case rel => exact ⟨k + 1, by go_num, by omega, HT2, JD⟩
        case measure => simp [intOf]; omega
      · have hne : (x != y) = true := by simpa using hxy
        have HN := Lib.hid (show L ≠ M by rintro rfl; rw [hx] at hy; injection hy with hy; exact hxy hy)
        clear hx hy hcx hcy hkl hkm ex ey k0 k1 l0 l1
        go_wp2_with fail
        refine region_h (fun v => Below wr.heap.size wr v) (by kernel_rfl) (by kernel_rfl) (Below.refl _ _).drew ?_
        obtain ⟨wd, hwd⟩ : ∃ wd, wr.drew = wd := ⟨_, rfl⟩
        have J0 : Hid (Below wr.heap.size wr wd) := Lib.hid (by rw [← hwd]; exact (Below.refl _ _).drew)
        rw [hwd]
        clear hwd
        (refine h_read 0 rfl (by kernel_rfl) (by kernel_rfl) (h_free rfl) ?_ ?_ ?_; rotate_left; (focus (intro v hv; go_simp; rfl)); go_simp)
        (refine h_read 1 rfl (by kernel_rfl) (by kernel_rfl) (h_free rfl) ?_ ?_ ?_; rotate_left; (focus (intro v hv; have x0 := (hv.cell (p := ⟨w.heap.size, 2, none⟩) RA.out.lt).trans K2.out; have x1 := (hv.cell (p := ⟨w1.heap.size, 2, none⟩) RB.out.lt).trans M2.out; have x2 := (hv.cell (p := ⟨b, o + k, none⟩) LT1.out).trans CX.out; have x3 := (hv.cell (p := ⟨b', o' + k, none⟩) LT2.out).trans CY.out; go_simp; rfl)); go_simp)
        (refine h_read 2 rfl (by kernel_rfl) (by kernel_rfl) (h_free rfl) ?_ ?_ ?_; rotate_left; (focus (intro v hv; go_simp; rfl)); go_simp)
        (refine h_read 3 rfl (by kernel_rfl) (by kernel_rfl) (h_free rfl) ?_ ?_ ?_; rotate_left; (focus (intro v hv; go_simp; rfl)); go_simp)
        (refine h_read 4 rfl (by kernel_rfl) (by kernel_rfl) (h_free rfl) ?_ ?_ ?_; rotate_left; (focus (intro v hv; have x0 := (hv.cell (p := ⟨w.heap.size, 2, none⟩) RA.out.lt).trans K2.out; have x1 := (hv.cell (p := ⟨w1.heap.size, 2, none⟩) RB.out.lt).trans M2.out; have x2 := (hv.cell (p := ⟨b, o + k, none⟩) LT1.out).trans CX.out; have x3 := (hv.cell (p := ⟨b', o' + k, none⟩) LT2.out).trans CY.out; go_simp; rfl)); go_simp)
        (refine h_read 5 rfl (by kernel_rfl) (by kernel_rfl) (h_free rfl) ?_ ?_ ?_; rotate_left; (focus (intro v hv; go_simp; rfl)); go_simp)
        (refine h_read 6 rfl (by kernel_rfl) (by kernel_rfl) (h_free rfl) ?_ ?_ ?_; rotate_left; (focus (intro v hv; have x0 := (hv.cell (p := ⟨w.heap.size, 2, none⟩) RA.out.lt).trans K2.out; have x1 := (hv.cell (p := ⟨w1.heap.size, 2, none⟩) RB.out.lt).trans M2.out; have x2 := (hv.cell (p := ⟨b, o + k, none⟩) LT1.out).trans CX.out; have x3 := (hv.cell (p := ⟨b', o' + k, none⟩) LT2.out).trans CY.out; go_simp; rfl)); go_simp)
        (refine h_read 7 rfl (by kernel_rfl) (by kernel_rfl) (h_free rfl) ?_ ?_ ?_; rotate_left; (focus (intro v hv; go_simp; rfl)); go_simp)
        (refine h_read 8 rfl (by kernel_rfl) (by kernel_rfl) (h_free rfl) ?_ ?_ ?_; rotate_left; (focus (intro v hv; go_simp; rfl)); go_simp)
        (refine h_read 9 rfl (by kernel_rfl) (by kernel_rfl) (h_free rfl) ?_ ?_ ?_; rotate_left; (focus (intro v hv; have x0 := (hv.cell (p := ⟨w.heap.size, 2, none⟩) RA.out.lt).trans K2.out; have x1 := (hv.cell (p := ⟨w1.heap.size, 2, none⟩) RB.out.lt).trans M2.out; have x2 := (hv.cell (p := ⟨b, o + k, none⟩) LT1.out).trans CX.out; have x3 := (hv.cell (p := ⟨b', o' + k, none⟩) LT2.out).trans CY.out; go_simp; rfl)); go_simp)
        (refine h_read 10 rfl (by kernel_rfl) (by kernel_rfl) (h_free rfl) ?_ ?_ ?_; rotate_left; (focus (intro v hv; go_simp; rfl)); go_simp)
        refine h_done (by kernel_rfl) ?_
        have JD := Lib.hid (B.out.trans (J0.out.mono B.out.size))
        clear k2 l2
        go_wp2_with fail
        go_ret
        exact ⟨one (vbool (by rw [← HQ.out, HO.out, decide_eq_false HN.out])), B2.out.trans (JD.out.mono B2.out.size)⟩
    · obtain rfl : n = k := by omega
      have HE := Lib.hid (show L = M by have := HT.out; rwa [List.take_of_length_le (by rw [HL.out]; omega), List.take_of_length_le (by rw [HM.out]; omega)] at this)
      go_wp2_with fail
      go_ret
      exact ⟨one (vbool (by rw [← HQ.out, HO.out, decide_eq_true HE.out])), B2.out.trans (B.out.mono B2.out.size)⟩
set_option maxRecDepth 100000 in
set_option maxHeartbeats 16000000 in
theorem zcheck (ep nx : Int) (a : Option Addr) (n c : Nat) (L : List Int) (w : World) (h : Sl .i64 w a n L) : Calls Try.prog 118 #[.agg (rvC ep nx a n c).toArray] w fun x w' => x = .returned (.bool (Rv.ok ⟨ep, nx, L⟩)) ∧ Below w.heap.size w w' := by
  have H := Lib.hid h
  have HL := Lib.hid h.1
  have hmx := h.2.1
  obtain ⟨b0, h0⟩ : ∃ q, in64 ep 0 2147483648 = q := ⟨_, rfl⟩
  obtain ⟨b1, h1⟩ : ∃ q, in64 nx 2 2147483648 = q := ⟨_, rfl⟩
  have HO := Lib.hid (show Rv.ok ⟨ep, nx, L⟩ = (b0 && (b1 && (decide (n ≤ 16) && riseI nx 1 L))) by rw [← h0, ← h1, ← h.1]; rfl)
  have HB0 := Lib.hid h0
  have HB1 := Lib.hid h1
  clear h h0 h1
  go_enter Try.func118, Try.ntmps118
  go_wp2_with (first
    | ((with_reducible refine box_row (o := ⟨some 1, _, _, _, _, _⟩) rfl _ _ rfl (rvC ep nx a n c) rfl ?_); intro w1 hr hb hz; have R1 := Lib.hid hr; have B1 := Lib.hid hb; clear hr hb hz))
  go_loopw [3] (fun i wr => ∃ (k : Nat) (z : Int), i = .int .i64 (k : Int) ∧ k ≤ n ∧ 1 ≤ z ∧ z ≤ 9223372036854775808 ∧ ((k = 0 ∧ z = 1) ∨ ∃ j, k = j + 1 ∧ L[j]? = some (z - 1)) ∧ Hid (riseI nx 1 L = riseI nx z (L.drop k)) ∧ Hid (Below w1.heap.size w1 wr)) (fun i _ => n - (intOf i).toNat)
  case atStart => exact ⟨0, 1, rfl, Nat.zero_le _, by decide, by decide, .inl ⟨rfl, rfl⟩, Lib.hid rfl, Lib.hid (Below.refl _ _)⟩
  case round =>
    obtain ⟨k, z, rfl, hk, hz1, hz2, hprev, HK, B⟩ := hrel
    have R := Lib.hid (R1.out.below B.out R1.out.lt)
    obtain ⟨c0, c1, c2⟩ := R.out.r3
    by_cases hlt : k < n
    · obtain ⟨b, o, x, rfl, hx, hcx, hx1, hx2⟩ := H.out.at (B1.out.trans (B.out.mono B1.out.size)) k hlt
      have hd : L.drop k = x :: L.drop (k + 1) := by
        obtain ⟨h1, h2⟩ := List.getElem?_eq_some_iff.1 hx
        rw [List.drop_eq_getElem_cons h1, h2]
      have hk2 := HK.out
      rw [hd] at hk2
      simp only [riseI] at hk2
      have LT1 := Lib.hid (World.block_lt_of_cell? wr _ hcx)
      have C1 := Lib.hid c1
      have C2 := Lib.hid c2
      have CX := Lib.hid hcx
      have g1 : (0 : Int) ≤ (k : Int) := by omega
      have g2 : (k : Int) < (n : Int) := by omega
      clear hd c0
      by_cases t1 : x < 1
      · have HF := Lib.hid (show riseI nx 1 L = false by rw [hk2]; simp; omega)
        clear hk2 hx hcx hprev
        go_wp2_with fail
        refine region_h (fun v => Below wr.heap.size wr v) (by kernel_rfl) (by kernel_rfl) (Below.refl _ _).drew ?_
        obtain ⟨wd, hwd⟩ : ∃ wd, wr.drew = wd := ⟨_, rfl⟩
        have J0 : Hid (Below wr.heap.size wr wd) := Lib.hid (by rw [← hwd]; exact (Below.refl _ _).drew)
        rw [hwd]
        clear hwd
        (refine h_read 0 rfl (by kernel_rfl) (by kernel_rfl) (h_free rfl) ?_ ?_ ?_; rotate_left; (focus (intro v hv; go_simp; rfl)); go_simp)
        (refine h_read 1 rfl (by kernel_rfl) (by kernel_rfl) (h_free rfl) ?_ ?_ ?_; rotate_left; (focus (intro v hv; have x0 := (hv.cell (p := ⟨w.heap.size, 1, none⟩) R.out.lt).trans C1.out; have x1 := (hv.cell (p := ⟨w.heap.size, 2, none⟩) R.out.lt).trans C2.out; have x2 := (hv.cell (p := ⟨b, o + k, none⟩) LT1.out).trans CX.out; go_simp; rfl)); go_simp)
        (refine h_read 2 rfl (by kernel_rfl) (by kernel_rfl) (h_free rfl) ?_ ?_ ?_; rotate_left; (focus (intro v hv; go_simp; rfl)); go_simp)
        (refine h_read 3 rfl (by kernel_rfl) (by kernel_rfl) (h_free rfl) ?_ ?_ ?_; rotate_left; (focus (intro v hv; go_simp; rfl)); go_simp)
        (refine h_read 4 rfl (by kernel_rfl) (by kernel_rfl) (h_free rfl) ?_ ?_ ?_; rotate_left; (focus (intro v hv; have x0 := (hv.cell (p := ⟨w.heap.size, 1, none⟩) R.out.lt).trans C1.out; have x1 := (hv.cell (p := ⟨w.heap.size, 2, none⟩) R.out.lt).trans C2.out; have x2 := (hv.cell (p := ⟨b, o + k, none⟩) LT1.out).trans CX.out; go_simp; rfl)); go_simp)
        (refine h_read 5 rfl (by kernel_rfl) (by kernel_rfl) (h_free rfl) ?_ ?_ ?_; rotate_left; (focus (intro v hv; go_simp; rfl)); go_simp)
        (refine h_read 6 rfl (by kernel_rfl) (by kernel_rfl) (h_free rfl) ?_ ?_ ?_; rotate_left; (focus (intro v hv; go_simp; rfl)); go_simp)
        (refine h_skip 7 rfl (by kernel_rfl) (by kernel_rfl) ?_ ?_; (focus (go_simp; first | done | (intro h; cases h) | simp)); go_simp)
        (refine h_skip 8 rfl (by kernel_rfl) (by kernel_rfl) ?_ ?_; (focus (go_simp; first | done | (intro h; cases h) | simp)); go_simp)
        (refine h_skip 9 rfl (by kernel_rfl) (by kernel_rfl) ?_ ?_; (focus (go_simp; first | done | (intro h; cases h) | simp)); go_simp)
        (refine h_skip 10 rfl (by kernel_rfl) (by kernel_rfl) ?_ ?_; (focus (go_simp; first | done | (intro h; cases h) | simp)); go_simp)
        (refine h_skip 11 rfl (by kernel_rfl) (by kernel_rfl) ?_ ?_; (focus (go_simp; first | done | (intro h; cases h) | simp)); go_simp)
        (refine h_skip 12 rfl (by kernel_rfl) (by kernel_rfl) ?_ ?_; (focus (go_simp; first | done | (intro h; cases h) | simp)); go_simp)
        (refine h_skip 13 rfl (by kernel_rfl) (by kernel_rfl) ?_ ?_; (focus (go_simp; first | done | (intro h; cases h) | simp)); go_simp)
        (refine h_skip 14 rfl (by kernel_rfl) (by kernel_rfl) ?_ ?_; (focus (go_simp; first | done | (intro h; cases h) | simp)); go_simp)
        (refine h_read 15 rfl (by kernel_rfl) (by kernel_rfl) (h_free rfl) ?_ ?_ ?_; rotate_left; (focus (intro v hv; go_simp; rfl)); go_simp)
        (refine h_read 16 rfl (by kernel_rfl) (by kernel_rfl) (h_free rfl) ?_ ?_ ?_; rotate_left; (focus (intro v hv; go_simp; rfl)); go_simp)
        (refine h_skip 17 rfl (by kernel_rfl) (by kernel_rfl) ?_ ?_; (focus (go_simp; first | done | (intro h; cases h) | simp)); go_simp)
        (refine h_skip 18 rfl (by kernel_rfl) (by kernel_rfl) ?_ ?_; (focus (go_simp; first | done | (intro h; cases h) | simp)); go_simp)
        (refine h_skip 19 rfl (by kernel_rfl) (by kernel_rfl) ?_ ?_; (focus (go_simp; first | done | (intro h; cases h) | simp)); go_simp)
        (refine h_skip 20 rfl (by kernel_rfl) (by kernel_rfl) ?_ ?_; (focus (go_simp; first | done | (intro h; cases h) | simp)); go_simp)
        (refine h_skip 21 rfl (by kernel_rfl) (by kernel_rfl) ?_ ?_; (focus (go_simp; first | done | (intro h; cases h) | simp)); go_simp)
        (refine h_skip 22 rfl (by kernel_rfl) (by kernel_rfl) ?_ ?_; (focus (go_simp; first | done | (intro h; cases h) | simp)); go_simp)
        (refine h_skip 23 rfl (by kernel_rfl) (by kernel_rfl) ?_ ?_; (focus (go_simp; first | done | (intro h; cases h) | simp)); go_simp)
        (refine h_skip 24 rfl (by kernel_rfl) (by kernel_rfl) ?_ ?_; (focus (go_simp; first | done | (intro h; cases h) | simp)); go_simp)
        (refine h_skip 25 rfl (by kernel_rfl) (by kernel_rfl) ?_ ?_; (focus (go_simp; first | done | (intro h; cases h) | simp)); go_simp)
        (refine h_skip 26 rfl (by kernel_rfl) (by kernel_rfl) ?_ ?_; (focus (go_simp; first | done | (intro h; cases h) | simp)); go_simp)
        (refine h_skip 27 rfl (by kernel_rfl) (by kernel_rfl) ?_ ?_; (focus (go_simp; first | done | (intro h; cases h) | simp)); go_simp)
        (refine h_skip 28 rfl (by kernel_rfl) (by kernel_rfl) ?_ ?_; (focus (go_simp; first | done | (intro h; cases h) | simp)); go_simp)
        (refine h_skip 29 rfl (by kernel_rfl) (by kernel_rfl) ?_ ?_; (focus (go_simp; first | done | (intro h; cases h) | simp)); go_simp)
        (refine h_skip 30 rfl (by kernel_rfl) (by kernel_rfl) ?_ ?_; (focus (go_simp; first | done | (intro h; cases h) | simp)); go_simp)
        (refine h_skip 31 rfl (by kernel_rfl) (by kernel_rfl) ?_ ?_; (focus (go_simp; first | done | (intro h; cases h) | simp)); go_simp)
        (refine h_skip 32 rfl (by kernel_rfl) (by kernel_rfl) ?_ ?_; (focus (go_simp; first | done | (intro h; cases h) | simp)); go_simp)
        (refine h_read 33 rfl (by kernel_rfl) (by kernel_rfl) (h_free rfl) ?_ ?_ ?_; rotate_left; (focus (intro v hv; go_simp; rfl)); go_simp)
        refine h_done (by kernel_rfl) ?_
        have JD := Lib.hid (B.out.trans (J0.out.mono B.out.size))
        clear c1 c2
        go_wp2_with fail
        go_ret
        exact ⟨one (vbool (by rw [HO.out, HF.out]; simp)), B1.out.trans (JD.out.mono B1.out.size)⟩
      by_cases t2 : nx ≤ x
      · have HF := Lib.hid (show riseI nx 1 L = false by rw [hk2]; simp; omega)
        clear hk2 hx hcx hprev
        go_wp2_with fail
        refine region_h (fun v => Below wr.heap.size wr v) (by kernel_rfl) (by kernel_rfl) (Below.refl _ _).drew ?_
        obtain ⟨wd, hwd⟩ : ∃ wd, wr.drew = wd := ⟨_, rfl⟩
        have J0 : Hid (Below wr.heap.size wr wd) := Lib.hid (by rw [← hwd]; exact (Below.refl _ _).drew)
        rw [hwd]
        clear hwd
        (refine h_read 0 rfl (by kernel_rfl) (by kernel_rfl) (h_free rfl) ?_ ?_ ?_; rotate_left; (focus (intro v hv; go_simp; rfl)); go_simp)
        (refine h_read 1 rfl (by kernel_rfl) (by kernel_rfl) (h_free rfl) ?_ ?_ ?_; rotate_left; (focus (intro v hv; have x0 := (hv.cell (p := ⟨w.heap.size, 1, none⟩) R.out.lt).trans C1.out; have x1 := (hv.cell (p := ⟨w.heap.size, 2, none⟩) R.out.lt).trans C2.out; have x2 := (hv.cell (p := ⟨b, o + k, none⟩) LT1.out).trans CX.out; go_simp; rfl)); go_simp)
        (refine h_read 2 rfl (by kernel_rfl) (by kernel_rfl) (h_free rfl) ?_ ?_ ?_; rotate_left; (focus (intro v hv; go_simp; rfl)); go_simp)
        (refine h_read 3 rfl (by kernel_rfl) (by kernel_rfl) (h_free rfl) ?_ ?_ ?_; rotate_left; (focus (intro v hv; go_simp; rfl)); go_simp)
        (refine h_read 4 rfl (by kernel_rfl) (by kernel_rfl) (h_free rfl) ?_ ?_ ?_; rotate_left; (focus (intro v hv; have x0 := (hv.cell (p := ⟨w.heap.size, 1, none⟩) R.out.lt).trans C1.out; have x1 := (hv.cell (p := ⟨w.heap.size, 2, none⟩) R.out.lt).trans C2.out; have x2 := (hv.cell (p := ⟨b, o + k, none⟩) LT1.out).trans CX.out; go_simp; rfl)); go_simp)
        (refine h_read 5 rfl (by kernel_rfl) (by kernel_rfl) (h_free rfl) ?_ ?_ ?_; rotate_left; (focus (intro v hv; go_simp; rfl)); go_simp)
        (refine h_read 6 rfl (by kernel_rfl) (by kernel_rfl) (h_free rfl) ?_ ?_ ?_; rotate_left; (focus (intro v hv; go_simp; rfl)); go_simp)
        (refine h_read 7 rfl (by kernel_rfl) (by kernel_rfl) ?_ ?_ ?_ ?_; (focus (go_simp; done)); rotate_left; (focus (intro v hv; go_simp; rfl)); go_simp)
        (refine h_read 8 rfl (by kernel_rfl) (by kernel_rfl) ?_ ?_ ?_ ?_; (focus (go_simp; done)); rotate_left; (focus (intro v hv; have x0 := (hv.cell (p := ⟨w.heap.size, 1, none⟩) R.out.lt).trans C1.out; have x1 := (hv.cell (p := ⟨w.heap.size, 2, none⟩) R.out.lt).trans C2.out; have x2 := (hv.cell (p := ⟨b, o + k, none⟩) LT1.out).trans CX.out; go_simp; rfl)); go_simp)
        (refine h_read 9 rfl (by kernel_rfl) (by kernel_rfl) ?_ ?_ ?_ ?_; (focus (go_simp; done)); rotate_left; (focus (intro v hv; go_simp; rfl)); go_simp)
        (refine h_read 10 rfl (by kernel_rfl) (by kernel_rfl) ?_ ?_ ?_ ?_; (focus (go_simp; done)); rotate_left; (focus (intro v hv; go_simp; rfl)); go_simp)
        (refine h_read 11 rfl (by kernel_rfl) (by kernel_rfl) ?_ ?_ ?_ ?_; (focus (go_simp; done)); rotate_left; (focus (intro v hv; have x0 := (hv.cell (p := ⟨w.heap.size, 1, none⟩) R.out.lt).trans C1.out; have x1 := (hv.cell (p := ⟨w.heap.size, 2, none⟩) R.out.lt).trans C2.out; have x2 := (hv.cell (p := ⟨b, o + k, none⟩) LT1.out).trans CX.out; go_simp; rfl)); go_simp)
        (refine h_read 12 rfl (by kernel_rfl) (by kernel_rfl) ?_ ?_ ?_ ?_; (focus (go_simp; done)); rotate_left; (focus (intro v hv; go_simp; rfl)); go_simp)
        (refine h_read 13 rfl (by kernel_rfl) (by kernel_rfl) ?_ ?_ ?_ ?_; (focus (go_simp; done)); rotate_left; (focus (intro v hv; have x0 := (hv.cell (p := ⟨w.heap.size, 1, none⟩) R.out.lt).trans C1.out; have x1 := (hv.cell (p := ⟨w.heap.size, 2, none⟩) R.out.lt).trans C2.out; have x2 := (hv.cell (p := ⟨b, o + k, none⟩) LT1.out).trans CX.out; go_simp; rfl)); go_simp)
        (refine h_read 14 rfl (by kernel_rfl) (by kernel_rfl) ?_ ?_ ?_ ?_; (focus (go_simp; done)); rotate_left; (focus (intro v hv; go_simp; rfl)); go_simp)
        (refine h_read 15 rfl (by kernel_rfl) (by kernel_rfl) (h_free rfl) ?_ ?_ ?_; rotate_left; (focus (intro v hv; go_simp; rfl)); go_simp)
        (refine h_read 16 rfl (by kernel_rfl) (by kernel_rfl) (h_free rfl) ?_ ?_ ?_; rotate_left; (focus (intro v hv; go_simp; rfl)); go_simp)
        (refine h_skip 17 rfl (by kernel_rfl) (by kernel_rfl) ?_ ?_; (focus (go_simp; first | done | (intro h; cases h) | simp)); go_simp)
        (refine h_skip 18 rfl (by kernel_rfl) (by kernel_rfl) ?_ ?_; (focus (go_simp; first | done | (intro h; cases h) | simp)); go_simp)
        (refine h_skip 19 rfl (by kernel_rfl) (by kernel_rfl) ?_ ?_; (focus (go_simp; first | done | (intro h; cases h) | simp)); go_simp)
        (refine h_skip 20 rfl (by kernel_rfl) (by kernel_rfl) ?_ ?_; (focus (go_simp; first | done | (intro h; cases h) | simp)); go_simp)
        (refine h_skip 21 rfl (by kernel_rfl) (by kernel_rfl) ?_ ?_; (focus (go_simp; first | done | (intro h; cases h) | simp)); go_simp)
        (refine h_skip 22 rfl (by kernel_rfl) (by kernel_rfl) ?_ ?_; (focus (go_simp; first | done | (intro h; cases h) | simp)); go_simp)
        (refine h_skip 23 rfl (by kernel_rfl) (by kernel_rfl) ?_ ?_; (focus (go_simp; first | done | (intro h; cases h) | simp)); go_simp)
        (refine h_skip 24 rfl (by kernel_rfl) (by kernel_rfl) ?_ ?_; (focus (go_simp; first | done | (intro h; cases h) | simp)); go_simp)
        (refine h_skip 25 rfl (by kernel_rfl) (by kernel_rfl) ?_ ?_; (focus (go_simp; first | done | (intro h; cases h) | simp)); go_simp)
        (refine h_skip 26 rfl (by kernel_rfl) (by kernel_rfl) ?_ ?_; (focus (go_simp; first | done | (intro h; cases h) | simp)); go_simp)
        (refine h_skip 27 rfl (by kernel_rfl) (by kernel_rfl) ?_ ?_; (focus (go_simp; first | done | (intro h; cases h) | simp)); go_simp)
        (refine h_skip 28 rfl (by kernel_rfl) (by kernel_rfl) ?_ ?_; (focus (go_simp; first | done | (intro h; cases h) | simp)); go_simp)
        (refine h_skip 29 rfl (by kernel_rfl) (by kernel_rfl) ?_ ?_; (focus (go_simp; first | done | (intro h; cases h) | simp)); go_simp)
        (refine h_skip 30 rfl (by kernel_rfl) (by kernel_rfl) ?_ ?_; (focus (go_simp; first | done | (intro h; cases h) | simp)); go_simp)
        (refine h_skip 31 rfl (by kernel_rfl) (by kernel_rfl) ?_ ?_; (focus (go_simp; first | done | (intro h; cases h) | simp)); go_simp)
        (refine h_skip 32 rfl (by kernel_rfl) (by kernel_rfl) ?_ ?_; (focus (go_simp; first | done | (intro h; cases h) | simp)); go_simp)
        (refine h_read 33 rfl (by kernel_rfl) (by kernel_rfl) (h_free rfl) ?_ ?_ ?_; rotate_left; (focus (intro v hv; go_simp; rfl)); go_simp)
        refine h_done (by kernel_rfl) ?_
        have JD := Lib.hid (B.out.trans (J0.out.mono B.out.size))
        clear c1 c2
        go_wp2_with fail
        go_ret
        exact ⟨one (vbool (by rw [HO.out, HF.out]; simp)), B1.out.trans (JD.out.mono B1.out.size)⟩
      rcases hprev with ⟨rfl, rfl⟩ | ⟨j, rfl, hj⟩
      · have HF := Lib.hid (show riseI nx 1 L = riseI nx (x + 1) (L.drop (0 + 1)) by rw [hk2, decide_eq_true (show 1 ≤ x by omega), decide_eq_true (show x < nx by omega)]; rfl)
        have HXX := Lib.hid hx
        clear hk2 hcx hx
        go_wp2_with fail
        refine region_h (fun v => Below wr.heap.size wr v) (by kernel_rfl) (by kernel_rfl) (Below.refl _ _).drew ?_
        obtain ⟨wd, hwd⟩ : ∃ wd, wr.drew = wd := ⟨_, rfl⟩
        have J0 : Hid (Below wr.heap.size wr wd) := Lib.hid (by rw [← hwd]; exact (Below.refl _ _).drew)
        rw [hwd]
        clear hwd
        (refine h_read 0 rfl (by kernel_rfl) (by kernel_rfl) (h_free rfl) ?_ ?_ ?_; rotate_left; (focus (intro v hv; go_simp; rfl)); go_simp)
        (refine h_read 1 rfl (by kernel_rfl) (by kernel_rfl) (h_free rfl) ?_ ?_ ?_; rotate_left; (focus (intro v hv; have x0 := (hv.cell (p := ⟨w.heap.size, 1, none⟩) R.out.lt).trans C1.out; have x1 := (hv.cell (p := ⟨w.heap.size, 2, none⟩) R.out.lt).trans C2.out; have x2 := (hv.cell (p := ⟨b, o, none⟩) LT1.out).trans CX.out; go_simp; rfl)); go_simp)
        (refine h_read 2 rfl (by kernel_rfl) (by kernel_rfl) (h_free rfl) ?_ ?_ ?_; rotate_left; (focus (intro v hv; go_simp; rfl)); go_simp)
        (refine h_read 3 rfl (by kernel_rfl) (by kernel_rfl) (h_free rfl) ?_ ?_ ?_; rotate_left; (focus (intro v hv; go_simp; rfl)); go_simp)
        (refine h_read 4 rfl (by kernel_rfl) (by kernel_rfl) (h_free rfl) ?_ ?_ ?_; rotate_left; (focus (intro v hv; have x0 := (hv.cell (p := ⟨w.heap.size, 1, none⟩) R.out.lt).trans C1.out; have x1 := (hv.cell (p := ⟨w.heap.size, 2, none⟩) R.out.lt).trans C2.out; have x2 := (hv.cell (p := ⟨b, o, none⟩) LT1.out).trans CX.out; go_simp; rfl)); go_simp)
        (refine h_read 5 rfl (by kernel_rfl) (by kernel_rfl) (h_free rfl) ?_ ?_ ?_; rotate_left; (focus (intro v hv; go_simp; rfl)); go_simp)
        (refine h_read 6 rfl (by kernel_rfl) (by kernel_rfl) (h_free rfl) ?_ ?_ ?_; rotate_left; (focus (intro v hv; go_simp; rfl)); go_simp)
        (refine h_read 7 rfl (by kernel_rfl) (by kernel_rfl) ?_ ?_ ?_ ?_; (focus (go_simp; done)); rotate_left; (focus (intro v hv; go_simp; rfl)); go_simp)
        (refine h_read 8 rfl (by kernel_rfl) (by kernel_rfl) ?_ ?_ ?_ ?_; (focus (go_simp; done)); rotate_left; (focus (intro v hv; have x0 := (hv.cell (p := ⟨w.heap.size, 1, none⟩) R.out.lt).trans C1.out; have x1 := (hv.cell (p := ⟨w.heap.size, 2, none⟩) R.out.lt).trans C2.out; have x2 := (hv.cell (p := ⟨b, o, none⟩) LT1.out).trans CX.out; go_simp; rfl)); go_simp)
        (refine h_read 9 rfl (by kernel_rfl) (by kernel_rfl) ?_ ?_ ?_ ?_; (focus (go_simp; done)); rotate_left; (focus (intro v hv; go_simp; rfl)); go_simp)
        (refine h_read 10 rfl (by kernel_rfl) (by kernel_rfl) ?_ ?_ ?_ ?_; (focus (go_simp; done)); rotate_left; (focus (intro v hv; go_simp; rfl)); go_simp)
        (refine h_read 11 rfl (by kernel_rfl) (by kernel_rfl) ?_ ?_ ?_ ?_; (focus (go_simp; done)); rotate_left; (focus (intro v hv; have x0 := (hv.cell (p := ⟨w.heap.size, 1, none⟩) R.out.lt).trans C1.out; have x1 := (hv.cell (p := ⟨w.heap.size, 2, none⟩) R.out.lt).trans C2.out; have x2 := (hv.cell (p := ⟨b, o, none⟩) LT1.out).trans CX.out; go_simp; rfl)); go_simp)
        (refine h_read 12 rfl (by kernel_rfl) (by kernel_rfl) ?_ ?_ ?_ ?_; (focus (go_simp; done)); rotate_left; (focus (intro v hv; go_simp; rfl)); go_simp)
        (refine h_read 13 rfl (by kernel_rfl) (by kernel_rfl) ?_ ?_ ?_ ?_; (focus (go_simp; done)); rotate_left; (focus (intro v hv; have x0 := (hv.cell (p := ⟨w.heap.size, 1, none⟩) R.out.lt).trans C1.out; have x1 := (hv.cell (p := ⟨w.heap.size, 2, none⟩) R.out.lt).trans C2.out; have x2 := (hv.cell (p := ⟨b, o, none⟩) LT1.out).trans CX.out; go_simp; rfl)); go_simp)
        (refine h_read 14 rfl (by kernel_rfl) (by kernel_rfl) ?_ ?_ ?_ ?_; (focus (go_simp; done)); rotate_left; (focus (intro v hv; go_simp; rfl)); go_simp)
        (refine h_read 15 rfl (by kernel_rfl) (by kernel_rfl) (h_free rfl) ?_ ?_ ?_; rotate_left; (focus (intro v hv; go_simp; rfl)); go_simp)
        (refine h_read 16 rfl (by kernel_rfl) (by kernel_rfl) (h_free rfl) ?_ ?_ ?_; rotate_left; (focus (intro v hv; go_simp; rfl)); go_simp)
        (refine h_read 17 rfl (by kernel_rfl) (by kernel_rfl) ?_ ?_ ?_ ?_; (focus (go_simp; done)); rotate_left; (focus (intro v hv; go_simp; rfl)); go_simp)
        (refine h_read 18 rfl (by kernel_rfl) (by kernel_rfl) ?_ ?_ ?_ ?_; (focus (go_simp; done)); rotate_left; (focus (intro v hv; go_simp; rfl)); go_simp)
        (refine h_read 19 rfl (by kernel_rfl) (by kernel_rfl) ?_ ?_ ?_ ?_; (focus (go_simp; done)); rotate_left; (focus (intro v hv; go_simp; rfl)); go_simp)
        (refine h_skip 20 rfl (by kernel_rfl) (by kernel_rfl) ?_ ?_; (focus (go_simp; first | done | (intro h; cases h) | simp)); go_simp)
        (refine h_skip 21 rfl (by kernel_rfl) (by kernel_rfl) ?_ ?_; (focus (go_simp; first | done | (intro h; cases h) | simp)); go_simp)
        (refine h_skip 22 rfl (by kernel_rfl) (by kernel_rfl) ?_ ?_; (focus (go_simp; first | done | (intro h; cases h) | simp)); go_simp)
        (refine h_skip 23 rfl (by kernel_rfl) (by kernel_rfl) ?_ ?_; (focus (go_simp; first | done | (intro h; cases h) | simp)); go_simp)
        (refine h_skip 24 rfl (by kernel_rfl) (by kernel_rfl) ?_ ?_; (focus (go_simp; first | done | (intro h; cases h) | simp)); go_simp)
        (refine h_skip 25 rfl (by kernel_rfl) (by kernel_rfl) ?_ ?_; (focus (go_simp; first | done | (intro h; cases h) | simp)); go_simp)
        (refine h_skip 26 rfl (by kernel_rfl) (by kernel_rfl) ?_ ?_; (focus (go_simp; first | done | (intro h; cases h) | simp)); go_simp)
        (refine h_skip 27 rfl (by kernel_rfl) (by kernel_rfl) ?_ ?_; (focus (go_simp; first | done | (intro h; cases h) | simp)); go_simp)
        (refine h_skip 28 rfl (by kernel_rfl) (by kernel_rfl) ?_ ?_; (focus (go_simp; first | done | (intro h; cases h) | simp)); go_simp)
        (refine h_skip 29 rfl (by kernel_rfl) (by kernel_rfl) ?_ ?_; (focus (go_simp; first | done | (intro h; cases h) | simp)); go_simp)
        (refine h_skip 30 rfl (by kernel_rfl) (by kernel_rfl) ?_ ?_; (focus (go_simp; first | done | (intro h; cases h) | simp)); go_simp)
        (refine h_skip 31 rfl (by kernel_rfl) (by kernel_rfl) ?_ ?_; (focus (go_simp; first | done | (intro h; cases h) | simp)); go_simp)
        (refine h_read 32 rfl (by kernel_rfl) (by kernel_rfl) ?_ ?_ ?_ ?_; (focus (go_simp; done)); rotate_left; (focus (intro v hv; go_simp; rfl)); go_simp)
        (refine h_read 33 rfl (by kernel_rfl) (by kernel_rfl) (h_free rfl) ?_ ?_ ?_; rotate_left; (focus (intro v hv; go_simp; rfl)); go_simp)
        refine h_done (by kernel_rfl) ?_
        have JD := Lib.hid (B.out.trans (J0.out.mono B.out.size))
        clear c1 c2
        go_wp2_with fail
        go_roundw
        case rel => exact ⟨0 + 1, x + 1, by go_num, by omega, by omega, by omega, .inr ⟨0, rfl, by rw [Int.add_sub_cancel]; exact HXX.out⟩, HF, JD⟩
        case measure => simp [intOf]; omega
      · obtain ⟨b', o', y, e', hy, hcy, hy1, hy2⟩ := H.out.at (B1.out.trans (B.out.mono B1.out.size)) j (by omega)
        injection e' with e'
        injection e' with e1 e2
        subst e1 e2
        have hyz : y = z - 1 := by rw [hj] at hy; injection hy with hy; exact hy.symm
        have LT2 := Lib.hid (World.block_lt_of_cell? wr _ hcy)
        have CY := Lib.hid hcy
        have hwj : IntKind.i64.wrap (j : Int) = (j : Int) := by rw [IntKind.wrap_i64]; omega
        have g3 : (0 : Int) < ((j + 1 : Nat) : Int) := by omega
        have g4 : (0 : Int) ≤ (j : Int) := by omega
        have g5 : (j : Int) < (n : Int) := by omega
        by_cases t3 : x ≤ y
        · have HF := Lib.hid (show riseI nx 1 L = false by rw [hk2]; simp; omega)
          clear hk2 hx hcx hcy hj hy
          go_wp2_with fail
          refine region_h (fun v => Below wr.heap.size wr v) (by kernel_rfl) (by kernel_rfl) (Below.refl _ _).drew ?_
          obtain ⟨wd, hwd⟩ : ∃ wd, wr.drew = wd := ⟨_, rfl⟩
          have J0 : Hid (Below wr.heap.size wr wd) := Lib.hid (by rw [← hwd]; exact (Below.refl _ _).drew)
          rw [hwd]
          clear hwd
          (refine h_read 0 rfl (by kernel_rfl) (by kernel_rfl) (h_free rfl) ?_ ?_ ?_; rotate_left; (focus (intro v hv; go_simp; rfl)); go_simp)
          (refine h_read 1 rfl (by kernel_rfl) (by kernel_rfl) (h_free rfl) ?_ ?_ ?_; rotate_left; (focus (intro v hv; have x0 := (hv.cell (p := ⟨w.heap.size, 1, none⟩) R.out.lt).trans C1.out; have x1 := (hv.cell (p := ⟨w.heap.size, 2, none⟩) R.out.lt).trans C2.out; have x2 := (hv.cell (p := ⟨b, o + (j + 1), none⟩) LT1.out).trans CX.out; have x3 := (hv.cell (p := ⟨b, o + j, none⟩) LT2.out).trans CY.out; go_simp; rfl)); go_simp)
          (refine h_read 2 rfl (by kernel_rfl) (by kernel_rfl) (h_free rfl) ?_ ?_ ?_; rotate_left; (focus (intro v hv; go_simp; rfl)); go_simp)
          (refine h_read 3 rfl (by kernel_rfl) (by kernel_rfl) (h_free rfl) ?_ ?_ ?_; rotate_left; (focus (intro v hv; go_simp; rfl)); go_simp)
          (refine h_read 4 rfl (by kernel_rfl) (by kernel_rfl) (h_free rfl) ?_ ?_ ?_; rotate_left; (focus (intro v hv; have x0 := (hv.cell (p := ⟨w.heap.size, 1, none⟩) R.out.lt).trans C1.out; have x1 := (hv.cell (p := ⟨w.heap.size, 2, none⟩) R.out.lt).trans C2.out; have x2 := (hv.cell (p := ⟨b, o + (j + 1), none⟩) LT1.out).trans CX.out; have x3 := (hv.cell (p := ⟨b, o + j, none⟩) LT2.out).trans CY.out; go_simp; rfl)); go_simp)
          (refine h_read 5 rfl (by kernel_rfl) (by kernel_rfl) (h_free rfl) ?_ ?_ ?_; rotate_left; (focus (intro v hv; go_simp; rfl)); go_simp)
          (refine h_read 6 rfl (by kernel_rfl) (by kernel_rfl) (h_free rfl) ?_ ?_ ?_; rotate_left; (focus (intro v hv; go_simp; rfl)); go_simp)
          (refine h_read 7 rfl (by kernel_rfl) (by kernel_rfl) ?_ ?_ ?_ ?_; (focus (go_simp; done)); rotate_left; (focus (intro v hv; go_simp; rfl)); go_simp)
          (refine h_read 8 rfl (by kernel_rfl) (by kernel_rfl) ?_ ?_ ?_ ?_; (focus (go_simp; done)); rotate_left; (focus (intro v hv; have x0 := (hv.cell (p := ⟨w.heap.size, 1, none⟩) R.out.lt).trans C1.out; have x1 := (hv.cell (p := ⟨w.heap.size, 2, none⟩) R.out.lt).trans C2.out; have x2 := (hv.cell (p := ⟨b, o + (j + 1), none⟩) LT1.out).trans CX.out; have x3 := (hv.cell (p := ⟨b, o + j, none⟩) LT2.out).trans CY.out; go_simp; rfl)); go_simp)
          (refine h_read 9 rfl (by kernel_rfl) (by kernel_rfl) ?_ ?_ ?_ ?_; (focus (go_simp; done)); rotate_left; (focus (intro v hv; go_simp; rfl)); go_simp)
          (refine h_read 10 rfl (by kernel_rfl) (by kernel_rfl) ?_ ?_ ?_ ?_; (focus (go_simp; done)); rotate_left; (focus (intro v hv; go_simp; rfl)); go_simp)
          (refine h_read 11 rfl (by kernel_rfl) (by kernel_rfl) ?_ ?_ ?_ ?_; (focus (go_simp; done)); rotate_left; (focus (intro v hv; have x0 := (hv.cell (p := ⟨w.heap.size, 1, none⟩) R.out.lt).trans C1.out; have x1 := (hv.cell (p := ⟨w.heap.size, 2, none⟩) R.out.lt).trans C2.out; have x2 := (hv.cell (p := ⟨b, o + (j + 1), none⟩) LT1.out).trans CX.out; have x3 := (hv.cell (p := ⟨b, o + j, none⟩) LT2.out).trans CY.out; go_simp; rfl)); go_simp)
          (refine h_read 12 rfl (by kernel_rfl) (by kernel_rfl) ?_ ?_ ?_ ?_; (focus (go_simp; done)); rotate_left; (focus (intro v hv; go_simp; rfl)); go_simp)
          (refine h_read 13 rfl (by kernel_rfl) (by kernel_rfl) ?_ ?_ ?_ ?_; (focus (go_simp; done)); rotate_left; (focus (intro v hv; have x0 := (hv.cell (p := ⟨w.heap.size, 1, none⟩) R.out.lt).trans C1.out; have x1 := (hv.cell (p := ⟨w.heap.size, 2, none⟩) R.out.lt).trans C2.out; have x2 := (hv.cell (p := ⟨b, o + (j + 1), none⟩) LT1.out).trans CX.out; have x3 := (hv.cell (p := ⟨b, o + j, none⟩) LT2.out).trans CY.out; go_simp; rfl)); go_simp)
          (refine h_read 14 rfl (by kernel_rfl) (by kernel_rfl) ?_ ?_ ?_ ?_; (focus (go_simp; done)); rotate_left; (focus (intro v hv; go_simp; rfl)); go_simp)
          (refine h_read 15 rfl (by kernel_rfl) (by kernel_rfl) (h_free rfl) ?_ ?_ ?_; rotate_left; (focus (intro v hv; go_simp; rfl)); go_simp)
          (refine h_read 16 rfl (by kernel_rfl) (by kernel_rfl) (h_free rfl) ?_ ?_ ?_; rotate_left; (focus (intro v hv; go_simp; rfl)); go_simp)
          (refine h_read 17 rfl (by kernel_rfl) (by kernel_rfl) ?_ ?_ ?_ ?_; (focus (go_simp; done)); rotate_left; (focus (intro v hv; go_simp; rfl)); go_simp)
          (refine h_read 18 rfl (by kernel_rfl) (by kernel_rfl) ?_ ?_ ?_ ?_; (focus (go_simp; done)); rotate_left; (focus (intro v hv; go_simp; rfl)); go_simp)
          (refine h_read 19 rfl (by kernel_rfl) (by kernel_rfl) ?_ ?_ ?_ ?_; (focus (go_simp; done)); rotate_left; (focus (intro v hv; go_simp; rfl)); go_simp)
          (refine h_read 20 rfl (by kernel_rfl) (by kernel_rfl) ?_ ?_ ?_ ?_; (focus (go_simp; done)); rotate_left; (focus (intro v hv; go_simp; rfl)); go_simp)
          (refine h_read 21 rfl (by kernel_rfl) (by kernel_rfl) ?_ ?_ ?_ ?_; (focus (go_simp; done)); rotate_left; (focus (intro v hv; have x0 := (hv.cell (p := ⟨w.heap.size, 1, none⟩) R.out.lt).trans C1.out; have x1 := (hv.cell (p := ⟨w.heap.size, 2, none⟩) R.out.lt).trans C2.out; have x2 := (hv.cell (p := ⟨b, o + (j + 1), none⟩) LT1.out).trans CX.out; have x3 := (hv.cell (p := ⟨b, o + j, none⟩) LT2.out).trans CY.out; go_simp; rfl)); go_simp)
          (refine h_read 22 rfl (by kernel_rfl) (by kernel_rfl) ?_ ?_ ?_ ?_; (focus (go_simp; done)); rotate_left; (focus (intro v hv; go_simp; rfl)); go_simp)
          (refine h_read 23 rfl (by kernel_rfl) (by kernel_rfl) ?_ ?_ ?_ ?_; (focus (go_simp; done)); rotate_left; (focus (intro v hv; go_simp; rfl)); go_simp)
          (refine h_read 24 rfl (by kernel_rfl) (by kernel_rfl) ?_ ?_ ?_ ?_; (focus (go_simp; done)); rotate_left; (focus (intro v hv; go_simp; rfl)); go_simp)
          (refine h_read 25 rfl (by kernel_rfl) (by kernel_rfl) ?_ ?_ ?_ ?_; (focus (go_simp; done)); rotate_left; (focus (intro v hv; have x0 := (hv.cell (p := ⟨w.heap.size, 1, none⟩) R.out.lt).trans C1.out; have x1 := (hv.cell (p := ⟨w.heap.size, 2, none⟩) R.out.lt).trans C2.out; have x2 := (hv.cell (p := ⟨b, o + (j + 1), none⟩) LT1.out).trans CX.out; have x3 := (hv.cell (p := ⟨b, o + j, none⟩) LT2.out).trans CY.out; go_simp; rfl)); go_simp)
          (refine h_read 26 rfl (by kernel_rfl) (by kernel_rfl) ?_ ?_ ?_ ?_; (focus (go_simp; done)); rotate_left; (focus (intro v hv; go_simp; rfl)); go_simp)
          (refine h_read 27 rfl (by kernel_rfl) (by kernel_rfl) ?_ ?_ ?_ ?_; (focus (go_simp; done)); rotate_left; (focus (intro v hv; have x0 := (hv.cell (p := ⟨w.heap.size, 1, none⟩) R.out.lt).trans C1.out; have x1 := (hv.cell (p := ⟨w.heap.size, 2, none⟩) R.out.lt).trans C2.out; have x2 := (hv.cell (p := ⟨b, o + (j + 1), none⟩) LT1.out).trans CX.out; have x3 := (hv.cell (p := ⟨b, o + j, none⟩) LT2.out).trans CY.out; go_simp; rfl)); go_simp)
          (refine h_read 28 rfl (by kernel_rfl) (by kernel_rfl) ?_ ?_ ?_ ?_; (focus (go_simp; done)); rotate_left; (focus (intro v hv; go_simp; rfl)); go_simp)
          (refine h_read 29 rfl (by kernel_rfl) (by kernel_rfl) ?_ ?_ ?_ ?_; (focus (go_simp; done)); rotate_left; (focus (intro v hv; go_simp; rfl)); go_simp)
          (refine h_read 30 rfl (by kernel_rfl) (by kernel_rfl) ?_ ?_ ?_ ?_; (focus (go_simp; done)); rotate_left; (focus (intro v hv; have x0 := (hv.cell (p := ⟨w.heap.size, 1, none⟩) R.out.lt).trans C1.out; have x1 := (hv.cell (p := ⟨w.heap.size, 2, none⟩) R.out.lt).trans C2.out; have x2 := (hv.cell (p := ⟨b, o + (j + 1), none⟩) LT1.out).trans CX.out; have x3 := (hv.cell (p := ⟨b, o + j, none⟩) LT2.out).trans CY.out; go_simp; rfl)); go_simp)
          (refine h_read 31 rfl (by kernel_rfl) (by kernel_rfl) ?_ ?_ ?_ ?_; (focus (go_simp; done)); rotate_left; (focus (intro v hv; go_simp; rfl)); go_simp)
          (refine h_read 32 rfl (by kernel_rfl) (by kernel_rfl) ?_ ?_ ?_ ?_; (focus (go_simp; done)); rotate_left; (focus (intro v hv; go_simp; rfl)); go_simp)
          (refine h_read 33 rfl (by kernel_rfl) (by kernel_rfl) (h_free rfl) ?_ ?_ ?_; rotate_left; (focus (intro v hv; go_simp; rfl)); go_simp)
          refine h_done (by kernel_rfl) ?_
          have JD := Lib.hid (B.out.trans (J0.out.mono B.out.size))
          clear c1 c2
          go_wp2_with fail
          go_ret
          exact ⟨one (vbool (by rw [HO.out, HF.out]; simp)), B1.out.trans (JD.out.mono B1.out.size)⟩
        · have HF := Lib.hid (show riseI nx 1 L = riseI nx (x + 1) (L.drop (j + 1 + 1)) by rw [hk2, decide_eq_true (show z ≤ x by omega), decide_eq_true (show x < nx by omega)]; rfl)
          have HXX := Lib.hid hx
          clear hk2 hcx hcy hx hj hy
          go_wp2_with fail
          refine region_h (fun v => Below wr.heap.size wr v) (by kernel_rfl) (by kernel_rfl) (Below.refl _ _).drew ?_
          obtain ⟨wd, hwd⟩ : ∃ wd, wr.drew = wd := ⟨_, rfl⟩
          have J0 : Hid (Below wr.heap.size wr wd) := Lib.hid (by rw [← hwd]; exact (Below.refl _ _).drew)
          rw [hwd]
          clear hwd
          (refine h_read 0 rfl (by kernel_rfl) (by kernel_rfl) (h_free rfl) ?_ ?_ ?_; rotate_left; (focus (intro v hv; go_simp; rfl)); go_simp)
          (refine h_read 1 rfl (by kernel_rfl) (by kernel_rfl) (h_free rfl) ?_ ?_ ?_; rotate_left; (focus (intro v hv; have x0 := (hv.cell (p := ⟨w.heap.size, 1, none⟩) R.out.lt).trans C1.out; have x1 := (hv.cell (p := ⟨w.heap.size, 2, none⟩) R.out.lt).trans C2.out; have x2 := (hv.cell (p := ⟨b, o + (j + 1), none⟩) LT1.out).trans CX.out; have x3 := (hv.cell (p := ⟨b, o + j, none⟩) LT2.out).trans CY.out; go_simp; rfl)); go_simp)
          (refine h_read 2 rfl (by kernel_rfl) (by kernel_rfl) (h_free rfl) ?_ ?_ ?_; rotate_left; (focus (intro v hv; go_simp; rfl)); go_simp)
          (refine h_read 3 rfl (by kernel_rfl) (by kernel_rfl) (h_free rfl) ?_ ?_ ?_; rotate_left; (focus (intro v hv; go_simp; rfl)); go_simp)
          (refine h_read 4 rfl (by kernel_rfl) (by kernel_rfl) (h_free rfl) ?_ ?_ ?_; rotate_left; (focus (intro v hv; have x0 := (hv.cell (p := ⟨w.heap.size, 1, none⟩) R.out.lt).trans C1.out; have x1 := (hv.cell (p := ⟨w.heap.size, 2, none⟩) R.out.lt).trans C2.out; have x2 := (hv.cell (p := ⟨b, o + (j + 1), none⟩) LT1.out).trans CX.out; have x3 := (hv.cell (p := ⟨b, o + j, none⟩) LT2.out).trans CY.out; go_simp; rfl)); go_simp)
          (refine h_read 5 rfl (by kernel_rfl) (by kernel_rfl) (h_free rfl) ?_ ?_ ?_; rotate_left; (focus (intro v hv; go_simp; rfl)); go_simp)
          (refine h_read 6 rfl (by kernel_rfl) (by kernel_rfl) (h_free rfl) ?_ ?_ ?_; rotate_left; (focus (intro v hv; go_simp; rfl)); go_simp)
          (refine h_read 7 rfl (by kernel_rfl) (by kernel_rfl) ?_ ?_ ?_ ?_; (focus (go_simp; done)); rotate_left; (focus (intro v hv; go_simp; rfl)); go_simp)
          (refine h_read 8 rfl (by kernel_rfl) (by kernel_rfl) ?_ ?_ ?_ ?_; (focus (go_simp; done)); rotate_left; (focus (intro v hv; have x0 := (hv.cell (p := ⟨w.heap.size, 1, none⟩) R.out.lt).trans C1.out; have x1 := (hv.cell (p := ⟨w.heap.size, 2, none⟩) R.out.lt).trans C2.out; have x2 := (hv.cell (p := ⟨b, o + (j + 1), none⟩) LT1.out).trans CX.out; have x3 := (hv.cell (p := ⟨b, o + j, none⟩) LT2.out).trans CY.out; go_simp; rfl)); go_simp)
          (refine h_read 9 rfl (by kernel_rfl) (by kernel_rfl) ?_ ?_ ?_ ?_; (focus (go_simp; done)); rotate_left; (focus (intro v hv; go_simp; rfl)); go_simp)
          (refine h_read 10 rfl (by kernel_rfl) (by kernel_rfl) ?_ ?_ ?_ ?_; (focus (go_simp; done)); rotate_left; (focus (intro v hv; go_simp; rfl)); go_simp)
          (refine h_read 11 rfl (by kernel_rfl) (by kernel_rfl) ?_ ?_ ?_ ?_; (focus (go_simp; done)); rotate_left; (focus (intro v hv; have x0 := (hv.cell (p := ⟨w.heap.size, 1, none⟩) R.out.lt).trans C1.out; have x1 := (hv.cell (p := ⟨w.heap.size, 2, none⟩) R.out.lt).trans C2.out; have x2 := (hv.cell (p := ⟨b, o + (j + 1), none⟩) LT1.out).trans CX.out; have x3 := (hv.cell (p := ⟨b, o + j, none⟩) LT2.out).trans CY.out; go_simp; rfl)); go_simp)
          (refine h_read 12 rfl (by kernel_rfl) (by kernel_rfl) ?_ ?_ ?_ ?_; (focus (go_simp; done)); rotate_left; (focus (intro v hv; go_simp; rfl)); go_simp)
          (refine h_read 13 rfl (by kernel_rfl) (by kernel_rfl) ?_ ?_ ?_ ?_; (focus (go_simp; done)); rotate_left; (focus (intro v hv; have x0 := (hv.cell (p := ⟨w.heap.size, 1, none⟩) R.out.lt).trans C1.out; have x1 := (hv.cell (p := ⟨w.heap.size, 2, none⟩) R.out.lt).trans C2.out; have x2 := (hv.cell (p := ⟨b, o + (j + 1), none⟩) LT1.out).trans CX.out; have x3 := (hv.cell (p := ⟨b, o + j, none⟩) LT2.out).trans CY.out; go_simp; rfl)); go_simp)
          (refine h_read 14 rfl (by kernel_rfl) (by kernel_rfl) ?_ ?_ ?_ ?_; (focus (go_simp; done)); rotate_left; (focus (intro v hv; go_simp; rfl)); go_simp)
          (refine h_read 15 rfl (by kernel_rfl) (by kernel_rfl) (h_free rfl) ?_ ?_ ?_; rotate_left; (focus (intro v hv; go_simp; rfl)); go_simp)
          (refine h_read 16 rfl (by kernel_rfl) (by kernel_rfl) (h_free rfl) ?_ ?_ ?_; rotate_left; (focus (intro v hv; go_simp; rfl)); go_simp)
          (refine h_read 17 rfl (by kernel_rfl) (by kernel_rfl) ?_ ?_ ?_ ?_; (focus (go_simp; done)); rotate_left; (focus (intro v hv; go_simp; rfl)); go_simp)
          (refine h_read 18 rfl (by kernel_rfl) (by kernel_rfl) ?_ ?_ ?_ ?_; (focus (go_simp; done)); rotate_left; (focus (intro v hv; go_simp; rfl)); go_simp)
          (refine h_read 19 rfl (by kernel_rfl) (by kernel_rfl) ?_ ?_ ?_ ?_; (focus (go_simp; done)); rotate_left; (focus (intro v hv; go_simp; rfl)); go_simp)
          (refine h_read 20 rfl (by kernel_rfl) (by kernel_rfl) ?_ ?_ ?_ ?_; (focus (go_simp; done)); rotate_left; (focus (intro v hv; go_simp; rfl)); go_simp)
          (refine h_read 21 rfl (by kernel_rfl) (by kernel_rfl) ?_ ?_ ?_ ?_; (focus (go_simp; done)); rotate_left; (focus (intro v hv; have x0 := (hv.cell (p := ⟨w.heap.size, 1, none⟩) R.out.lt).trans C1.out; have x1 := (hv.cell (p := ⟨w.heap.size, 2, none⟩) R.out.lt).trans C2.out; have x2 := (hv.cell (p := ⟨b, o + (j + 1), none⟩) LT1.out).trans CX.out; have x3 := (hv.cell (p := ⟨b, o + j, none⟩) LT2.out).trans CY.out; go_simp; rfl)); go_simp)
          (refine h_read 22 rfl (by kernel_rfl) (by kernel_rfl) ?_ ?_ ?_ ?_; (focus (go_simp; done)); rotate_left; (focus (intro v hv; go_simp; rfl)); go_simp)
          (refine h_read 23 rfl (by kernel_rfl) (by kernel_rfl) ?_ ?_ ?_ ?_; (focus (go_simp; done)); rotate_left; (focus (intro v hv; go_simp; rfl)); go_simp)
          (refine h_read 24 rfl (by kernel_rfl) (by kernel_rfl) ?_ ?_ ?_ ?_; (focus (go_simp; done)); rotate_left; (focus (intro v hv; go_simp; rfl)); go_simp)
          (refine h_read 25 rfl (by kernel_rfl) (by kernel_rfl) ?_ ?_ ?_ ?_; (focus (go_simp; done)); rotate_left; (focus (intro v hv; have x0 := (hv.cell (p := ⟨w.heap.size, 1, none⟩) R.out.lt).trans C1.out; have x1 := (hv.cell (p := ⟨w.heap.size, 2, none⟩) R.out.lt).trans C2.out; have x2 := (hv.cell (p := ⟨b, o + (j + 1), none⟩) LT1.out).trans CX.out; have x3 := (hv.cell (p := ⟨b, o + j, none⟩) LT2.out).trans CY.out; go_simp; rfl)); go_simp)
          (refine h_read 26 rfl (by kernel_rfl) (by kernel_rfl) ?_ ?_ ?_ ?_; (focus (go_simp; done)); rotate_left; (focus (intro v hv; go_simp; rfl)); go_simp)
          (refine h_read 27 rfl (by kernel_rfl) (by kernel_rfl) ?_ ?_ ?_ ?_; (focus (go_simp; done)); rotate_left; (focus (intro v hv; have x0 := (hv.cell (p := ⟨w.heap.size, 1, none⟩) R.out.lt).trans C1.out; have x1 := (hv.cell (p := ⟨w.heap.size, 2, none⟩) R.out.lt).trans C2.out; have x2 := (hv.cell (p := ⟨b, o + (j + 1), none⟩) LT1.out).trans CX.out; have x3 := (hv.cell (p := ⟨b, o + j, none⟩) LT2.out).trans CY.out; go_simp; rfl)); go_simp)
          (refine h_read 28 rfl (by kernel_rfl) (by kernel_rfl) ?_ ?_ ?_ ?_; (focus (go_simp; done)); rotate_left; (focus (intro v hv; go_simp; rfl)); go_simp)
          (refine h_read 29 rfl (by kernel_rfl) (by kernel_rfl) ?_ ?_ ?_ ?_; (focus (go_simp; done)); rotate_left; (focus (intro v hv; go_simp; rfl)); go_simp)
          (refine h_read 30 rfl (by kernel_rfl) (by kernel_rfl) ?_ ?_ ?_ ?_; (focus (go_simp; done)); rotate_left; (focus (intro v hv; have x0 := (hv.cell (p := ⟨w.heap.size, 1, none⟩) R.out.lt).trans C1.out; have x1 := (hv.cell (p := ⟨w.heap.size, 2, none⟩) R.out.lt).trans C2.out; have x2 := (hv.cell (p := ⟨b, o + (j + 1), none⟩) LT1.out).trans CX.out; have x3 := (hv.cell (p := ⟨b, o + j, none⟩) LT2.out).trans CY.out; go_simp; rfl)); go_simp)
          (refine h_read 31 rfl (by kernel_rfl) (by kernel_rfl) ?_ ?_ ?_ ?_; (focus (go_simp; done)); rotate_left; (focus (intro v hv; go_simp; rfl)); go_simp)
          (refine h_read 32 rfl (by kernel_rfl) (by kernel_rfl) ?_ ?_ ?_ ?_; (focus (go_simp; done)); rotate_left; (focus (intro v hv; go_simp; rfl)); go_simp)
          (refine h_read 33 rfl (by kernel_rfl) (by kernel_rfl) (h_free rfl) ?_ ?_ ?_; rotate_left; (focus (intro v hv; go_simp; rfl)); go_simp)
          refine h_done (by kernel_rfl) ?_
          have JD := Lib.hid (B.out.trans (J0.out.mono B.out.size))
          clear c1 c2
          go_wp2_with fail
          go_roundw
          case rel => exact ⟨j + 1 + 1, x + 1, by go_num, by omega, by omega, by omega, .inr ⟨j + 1, rfl, by rw [Int.add_sub_cancel]; exact HXX.out⟩, HF, JD⟩
          case measure => simp [intOf]; omega
    · obtain rfl : n = k := by omega
      have hk2 := HK.out
      rw [List.drop_eq_nil_of_le (by rw [HL.out]; exact Nat.le_refl _)] at hk2
      have HT := Lib.hid (show riseI nx 1 L = true by rw [hk2]; rfl)
      clear hk2 hprev
      cases b0
      · go_wp2_with (first
          | (go_at_call 133; (first | (with_reducible refine (rwin ep 0 2147483648 _ HB0.out _).mono ?_) | (with_reducible refine (rwin nx 2 2147483648 _ HB1.out _).mono ?_)); rintro x w' ⟨rfl, rfl⟩))
        go_ret
        exact ⟨one (vbool (by rw [HO.out, HT.out]; first | done | rfl | (simp; done) | (simp; omega) | (rw [decide_eq_true (show n ≤ 16 by omega)]; simp) | (rw [decide_eq_false (show ¬ n ≤ 16 by omega)]; simp))), B1.out.trans (B.out.mono B1.out.size)⟩
      · cases b1
        · go_wp2_with (first
            | (go_at_call 133; (first | (with_reducible refine (rwin ep 0 2147483648 _ HB0.out _).mono ?_) | (with_reducible refine (rwin nx 2 2147483648 _ HB1.out _).mono ?_)); rintro x w' ⟨rfl, rfl⟩))
          go_ret
          exact ⟨one (vbool (by rw [HO.out, HT.out]; first | done | rfl | (simp; done) | (simp; omega) | (rw [decide_eq_true (show n ≤ 16 by omega)]; simp) | (rw [decide_eq_false (show ¬ n ≤ 16 by omega)]; simp))), B1.out.trans (B.out.mono B1.out.size)⟩
        · by_cases hl : n ≤ 16
          · go_wp2_with (first
              | (go_at_call 133; (first | (with_reducible refine (rwin ep 0 2147483648 _ HB0.out _).mono ?_) | (with_reducible refine (rwin nx 2 2147483648 _ HB1.out _).mono ?_)); rintro x w' ⟨rfl, rfl⟩))
            go_ret
            exact ⟨one (vbool (by rw [HO.out, HT.out]; first | done | rfl | (simp; done) | (simp; omega) | (rw [decide_eq_true (show n ≤ 16 by omega)]; simp) | (rw [decide_eq_false (show ¬ n ≤ 16 by omega)]; simp))), B1.out.trans (B.out.mono B1.out.size)⟩
          · go_wp2_with (first
              | (go_at_call 133; (first | (with_reducible refine (rwin ep 0 2147483648 _ HB0.out _).mono ?_) | (with_reducible refine (rwin nx 2 2147483648 _ HB1.out _).mono ?_)); rintro x w' ⟨rfl, rfl⟩))
            go_ret
            exact ⟨one (vbool (by rw [HO.out, HT.out]; first | done | rfl | (simp; done) | (simp; omega) | (rw [decide_eq_true (show n ≤ 16 by omega)]; simp) | (rw [decide_eq_false (show ¬ n ≤ 16 by omega)]; simp))), B1.out.trans (B.out.mono B1.out.size)⟩
end Go.Proofs.Ytiopcojkdglapaa.W
