/- LAYER 19 (ledger): Same of the reference. -/
import Derived.Test.YtiopcojkdglapaaLdW
set_option linter.unusedSimpArgs false
set_option linter.unusedVariables false
namespace Go.Proofs.Ytiopcojkdglapaa.W
open Go Go.ChangeShapes Go.WideShapes Go.ChangeAt Go.RowKit
open Go.Proofs.Ytiopcojkdglapaa.P (enc dec)

theorem hd_next {α : Type} (L M : List α) (k : Nat) (x : α) (hL : L[k]? = some x) (hM : M[k]? = some x) (h : L.take k = M.take k) : L.take (k + 1) = M.take (k + 1) := by
  have h1 := (List.getElem?_eq_some_iff.1 hL)
  have h2 := (List.getElem?_eq_some_iff.1 hM)
  obtain ⟨a1, b1⟩ := h1
  obtain ⟨a2, b2⟩ := h2
  rw [List.take_succ_eq_append_getElem a1, List.take_succ_eq_append_getElem a2, h, b1, b2]
theorem ba_ext (a b : ByteArray) (h : a.toList = b.toList) : a = b := by
  rw [ByteArray.toList_eq, ByteArray.toList_eq] at h
  exact ByteArray.ext (Array.ext' h)
theorem ld_part {q u h nx n q' u' h' nx' n' : Int} : (¬ q = q' ∨ (q = q' ∧ ¬ u = u') ∨ (q = q' ∧ u = u' ∧ ¬ h = h') ∨ (q = q' ∧ u = u' ∧ h = h' ∧ ¬ nx = nx') ∨ (q = q' ∧ u = u' ∧ h = h' ∧ nx = nx' ∧ ¬ n = n')) ∨ (q = q' ∧ u = u' ∧ h = h' ∧ nx = nx' ∧ n = n') := by
  by_cases h1 : q = q' <;> by_cases h2 : u = u' <;> by_cases h3 : h = h' <;> by_cases h4 : nx = nx' <;> by_cases h5 : n = n' <;> simp [h1, h2, h3, h4, h5]
set_option maxRecDepth 100000 in
set_option maxHeartbeats 8000000 in
theorem ysame (q u h' nx : Int) (a : Option Addr) (n c : Nat) (L : List Hd) (q2 u2 h2 nx2 : Int) (a2 : Option Addr) (n2 c2 : Nat) (M : List Hd) (w : World) (h1 : Ls hdE w a n c L) (h3 : Ls hdE w a2 n2 c2 M) (V : Bool) (hV : V = true ↔ (⟨q, u, h', nx, L⟩ : Ld) = ⟨q2, u2, h2, nx2, M⟩) :
    Calls Try.prog 56 #[.agg (ldC q u h' nx a n c).toArray, .agg (ldC q2 u2 h2 nx2 a2 n2 c2).toArray] w fun x w' => x = .returned (.bool V) ∧ Below w.heap.size w w' := by
  have H1 := Lib.hid h1
  have H2 := Lib.hid h3
  have HV := Lib.hid hV
  have hm := h1.hmax
  have hle := h1.hle
  have HL1 := Lib.hid h1.hlen
  have HL2 := Lib.hid h3.hlen
  clear h1 h3 hV
  rcases ld_part (q := q) (u := u) (h := h') (nx := nx) (n := (n : Int)) (q' := q2) (u' := u2) (h' := h2) (nx' := nx2) (n' := (n2 : Int)) with hbad | ⟨rfl, rfl, rfl, rfl, hn⟩
  · have HF := Lib.hid (show V = false by
      cases hh : V with
      | false => rfl
      | true =>
        have h4 := HV.out.1 hh
        injection h4 with k1 k2 k3 k4 k5
        have k6 : n = n2 := by rw [← HL1.out, ← HL2.out, k5]
        subst k1 k2 k3 k4 k6
        simp at hbad)
    clear HV
    rcases hbad with hb | ⟨rfl, hb⟩ | ⟨rfl, rfl, hb⟩ | ⟨rfl, rfl, rfl, hb⟩ | ⟨rfl, rfl, rfl, rfl, hb⟩
    · go_enter Try.func56, Try.ntmps56
      go_wp2_with (first
        | ((with_reducible refine box_row (o := ⟨some 2, _, _, _, _, _⟩) rfl _ _ rfl (ldC q u h' nx a n c) rfl ?_); intro w1 hr hb hz; have R1 := Lib.hid hr; have B1 := Lib.hid hb; clear hr hb hz)
        | ((with_reducible refine box_row (o := ⟨some 3, _, _, _, _, _⟩) rfl _ _ rfl (ldC q2 u2 h2 nx2 a2 n2 c2) rfl ?_); intro w2 hr hb hz; have R2 := Lib.hid hr; have R1 := Lib.hid (R1.out.below hb R1.out.lt); have B2 := Lib.hid (B1.out.trans (hb.mono B1.out.size)); obtain ⟨c0, c1, c2, c3, c4⟩ := R1.out.l5; obtain ⟨e0, e1, e2, e3, e4⟩ := R2.out.l5; clear hr hb hz))
      go_ret
      exact ⟨one (vbool (by rw [HF.out])), B2.out⟩
    · go_enter Try.func56, Try.ntmps56
      go_wp2_with (first
        | ((with_reducible refine box_row (o := ⟨some 2, _, _, _, _, _⟩) rfl _ _ rfl (ldC q u h' nx a n c) rfl ?_); intro w1 hr hb hz; have R1 := Lib.hid hr; have B1 := Lib.hid hb; clear hr hb hz)
        | ((with_reducible refine box_row (o := ⟨some 3, _, _, _, _, _⟩) rfl _ _ rfl (ldC q u2 h2 nx2 a2 n2 c2) rfl ?_); intro w2 hr hb hz; have R2 := Lib.hid hr; have R1 := Lib.hid (R1.out.below hb R1.out.lt); have B2 := Lib.hid (B1.out.trans (hb.mono B1.out.size)); obtain ⟨c0, c1, c2, c3, c4⟩ := R1.out.l5; obtain ⟨e0, e1, e2, e3, e4⟩ := R2.out.l5; clear hr hb hz))
      go_ret
      exact ⟨one (vbool (by rw [HF.out])), B2.out⟩
    · go_enter Try.func56, Try.ntmps56
      go_wp2_with (first
        | ((with_reducible refine box_row (o := ⟨some 2, _, _, _, _, _⟩) rfl _ _ rfl (ldC q u h' nx a n c) rfl ?_); intro w1 hr hb hz; have R1 := Lib.hid hr; have B1 := Lib.hid hb; clear hr hb hz)
        | ((with_reducible refine box_row (o := ⟨some 3, _, _, _, _, _⟩) rfl _ _ rfl (ldC q u h2 nx2 a2 n2 c2) rfl ?_); intro w2 hr hb hz; have R2 := Lib.hid hr; have R1 := Lib.hid (R1.out.below hb R1.out.lt); have B2 := Lib.hid (B1.out.trans (hb.mono B1.out.size)); obtain ⟨c0, c1, c2, c3, c4⟩ := R1.out.l5; obtain ⟨e0, e1, e2, e3, e4⟩ := R2.out.l5; clear hr hb hz))
      go_ret
      exact ⟨one (vbool (by rw [HF.out])), B2.out⟩
    · go_enter Try.func56, Try.ntmps56
      go_wp2_with (first
        | ((with_reducible refine box_row (o := ⟨some 2, _, _, _, _, _⟩) rfl _ _ rfl (ldC q u h' nx a n c) rfl ?_); intro w1 hr hb hz; have R1 := Lib.hid hr; have B1 := Lib.hid hb; clear hr hb hz)
        | ((with_reducible refine box_row (o := ⟨some 3, _, _, _, _, _⟩) rfl _ _ rfl (ldC q u h' nx2 a2 n2 c2) rfl ?_); intro w2 hr hb hz; have R2 := Lib.hid hr; have R1 := Lib.hid (R1.out.below hb R1.out.lt); have B2 := Lib.hid (B1.out.trans (hb.mono B1.out.size)); obtain ⟨c0, c1, c2, c3, c4⟩ := R1.out.l5; obtain ⟨e0, e1, e2, e3, e4⟩ := R2.out.l5; clear hr hb hz))
      go_ret
      exact ⟨one (vbool (by rw [HF.out])), B2.out⟩
    · go_enter Try.func56, Try.ntmps56
      go_wp2_with (first
        | ((with_reducible refine box_row (o := ⟨some 2, _, _, _, _, _⟩) rfl _ _ rfl (ldC q u h' nx a n c) rfl ?_); intro w1 hr hb hz; have R1 := Lib.hid hr; have B1 := Lib.hid hb; clear hr hb hz)
        | ((with_reducible refine box_row (o := ⟨some 3, _, _, _, _, _⟩) rfl _ _ rfl (ldC q u h' nx a2 n2 c2) rfl ?_); intro w2 hr hb hz; have R2 := Lib.hid hr; have R1 := Lib.hid (R1.out.below hb R1.out.lt); have B2 := Lib.hid (B1.out.trans (hb.mono B1.out.size)); obtain ⟨c0, c1, c2, c3, c4⟩ := R1.out.l5; obtain ⟨e0, e1, e2, e3, e4⟩ := R2.out.l5; clear hr hb hz))
      go_ret
      exact ⟨one (vbool (by rw [HF.out])), B2.out⟩
  · obtain rfl : n = n2 := by omega
    clear hn
    go_enter Try.func56, Try.ntmps56
    go_wp2_with (first
      | ((with_reducible refine box_row (o := ⟨some 2, _, _, _, _, _⟩) rfl _ _ rfl (ldC q u h' nx a n c) rfl ?_); intro w1 hr hb hz; have R1 := Lib.hid hr; have B1 := Lib.hid hb; clear hr hb hz)
      | ((with_reducible refine box_row (o := ⟨some 3, _, _, _, _, _⟩) rfl _ _ rfl (ldC q u h' nx a2 n c2) rfl ?_); intro w2 hr hb hz; have R2 := Lib.hid hr; have R1 := Lib.hid (R1.out.below hb R1.out.lt); have B2 := Lib.hid (B1.out.trans (hb.mono B1.out.size)); obtain ⟨c0, c1, c2, c3, c4⟩ := R1.out.l5; obtain ⟨e0, e1, e2, e3, e4⟩ := R2.out.l5; clear hr hb hz))
    clear c0 c1 c2 c3 e0 e1 e2 e3
    go_loopw [5] (fun i wr => ∃ k : Nat, i = .int .i64 (k : Int) ∧ k ≤ n ∧ Hid (L.take k = M.take k) ∧ Hid (Below w2.heap.size w2 wr)) (fun i _ => n - (intOf i).toNat)
    case atStart => exact ⟨0, rfl, Nat.zero_le _, Lib.hid rfl, Lib.hid (Below.refl _ _)⟩
    case round =>
      clear c4 e4
      obtain ⟨k, rfl, hk, P, G⟩ := hrel
      have R1 := Lib.hid (R1.out.below G.out R1.out.lt)
      have R2 := Lib.hid (R2.out.below G.out R2.out.lt)
      have B := Lib.hid (B2.out.trans (G.out.mono B2.out.size))
      obtain ⟨c0, c1, c2, c3, c4⟩ := R1.out.l5
      obtain ⟨e0, e1, e2, e3, e4⟩ := R2.out.l5
      have C4 := Lib.hid c4
      have E4 := Lib.hid e4
      clear c0 c1 c2 c3 e0 e1 e2 e3
      by_cases hlt : k < n
      · obtain ⟨b, o, x, rfl, hx1, hc1, hf1⟩ := H1.out.at hdOk B.out k hlt
        obtain ⟨b', o', y, rfl, hx2, hc2, hf2⟩ := H2.out.at hdOk B.out k hlt
        have X1 := Lib.hid hc1
        have X2 := Lib.hid hc2
        have g1 : (0 : Int) ≤ (k : Int) := by omega
        have g2 : (k : Int) < (n : Int) := by omega
        have HX1 := Lib.hid hx1
        have HX2 := Lib.hid hx2
        clear hc1 hc2 hf1 hf2 hx1 hx2
        obtain ⟨i1, i2, i3, i4, i5, is⟩ := x
        obtain ⟨j1, j2, j3, j4, j5, js⟩ := y
        go_wp2_with fail
        clear c4 e4
        refine region_h (fun v => Below wr.heap.size wr v) (by kernel_rfl) (by kernel_rfl) (Below.refl _ _).drew ?_
        obtain ⟨wd, hwd⟩ : ∃ wd, wr.drew = wd := ⟨_, rfl⟩
        have D0 : Hid (Below wr.heap.size wr wd) := Lib.hid (by rw [← hwd]; exact (Below.refl _ _).drew)
        rw [hwd]
        clear hwd
        by_cases heq : (⟨i1, i2, i3, i4, i5, is⟩ : Hd) = ⟨j1, j2, j3, j4, j5, js⟩
        · have HNX := Lib.hid (hd_next L M k _ HX1.out (by rw [heq]; exact HX2.out) P.out)
          injection heq with k1 k2 k3 k4 k5 k6
          subst k1 k2 k3 k4 k5 k6
          (refine h_read 0 rfl (by kernel_rfl) (by kernel_rfl) (h_free rfl) ?_ ?_ ?_; rotate_left; (focus (intro v hv; go_simp; rfl)); go_simp)
          (refine h_read 1 rfl (by kernel_rfl) (by kernel_rfl) (h_free rfl) ?_ ?_ ?_; rotate_left; (focus (intro v hv; have q0 := (hv.cell (p := ⟨w.heap.size, 4, none⟩) R1.out.lt).trans C4.out; have q1 := (hv.cell (p := ⟨w1.heap.size, 4, none⟩) R2.out.lt).trans E4.out; go_simp; rfl)); go_simp)
          (refine h_read 2 rfl (by kernel_rfl) (by kernel_rfl) (h_free rfl) ?_ ?_ ?_; rotate_left; (focus (intro v hv; go_simp; rfl)); go_simp)
          (refine h_read 3 rfl (by kernel_rfl) (by kernel_rfl) (h_free rfl) ?_ ?_ ?_; rotate_left; (focus (intro v hv; go_simp; rfl)); go_simp)
          (refine h_read 4 rfl (by kernel_rfl) (by kernel_rfl) (h_free rfl) ?_ ?_ ?_; rotate_left; (focus (intro v hv; refine run_cells 52 (.tmp 51) ?_ b (o + k * 6) ?_ [.int .i64 i1, .int .i64 i2, .int .i64 i3, .int .i64 i4, .int .i64 i5, .string is] _ (fun j' u' hj => by rw [hv.cell (p := ⟨b, o + k * 6 + j', none⟩) (World.block_lt_of_cell? wr _ (X1.out j' u' hj))]; exact X1.out j' u' hj) Try.underlying52 rfl hd_size; (focus rfl); go_simp)); go_simp)
          (refine h_read 5 rfl (by kernel_rfl) (by kernel_rfl) (h_free rfl) ?_ ?_ ?_; rotate_left; (focus (intro v hv; go_simp; rfl)); go_simp)
          (refine h_read 6 rfl (by kernel_rfl) (by kernel_rfl) (h_free rfl) ?_ ?_ ?_; rotate_left; (focus (intro v hv; have q0 := (hv.cell (p := ⟨w.heap.size, 4, none⟩) R1.out.lt).trans C4.out; have q1 := (hv.cell (p := ⟨w1.heap.size, 4, none⟩) R2.out.lt).trans E4.out; go_simp; rfl)); go_simp)
          (refine h_read 7 rfl (by kernel_rfl) (by kernel_rfl) (h_free rfl) ?_ ?_ ?_; rotate_left; (focus (intro v hv; go_simp; rfl)); go_simp)
          (refine h_read 8 rfl (by kernel_rfl) (by kernel_rfl) (h_free rfl) ?_ ?_ ?_; rotate_left; (focus (intro v hv; go_simp; rfl)); go_simp)
          (refine h_read 9 rfl (by kernel_rfl) (by kernel_rfl) (h_free rfl) ?_ ?_ ?_; rotate_left; (focus (intro v hv; refine run_cells 52 (.tmp 56) ?_ b' (o' + k * 6) ?_ [.int .i64 i1, .int .i64 i2, .int .i64 i3, .int .i64 i4, .int .i64 i5, .string is] _ (fun j' u' hj => by rw [hv.cell (p := ⟨b', o' + k * 6 + j', none⟩) (World.block_lt_of_cell? wr _ (X2.out j' u' hj))]; exact X2.out j' u' hj) Try.underlying52 rfl hd_size; (focus rfl); go_simp)); go_simp)
          (refine h_read 10 rfl (by kernel_rfl) (by kernel_rfl) (h_free rfl) (.bool false) ?_ ?_; (focus (intro v hv; first | (go_simp; done) | (go_simp; exact HNE.out) | (go_simp; simp))); go_simp)
          refine h_done (by kernel_rfl) ?_
          go_wp2_with fail
          go_roundw
          case rel => exact ⟨k + 1, vint (by omega), by omega, HNX, Lib.hid (G.out.trans (D0.out.mono G.out.size))⟩
          case measure => simp [intOf]; omega
        · have HF := Lib.hid (show V = false by
            cases hh : V with
            | false => rfl
            | true =>
              have h3 := HV.out.1 hh
              injection h3 with k1 k2 k3 k4 k5
              have h4 := HX1.out
              rw [k5, HX2.out] at h4
              exact absurd (Option.some.inj h4).symm heq)
          have HNE := Lib.hid (show i1 = j1 → i2 = j2 → i3 = j3 → i4 = j4 → i5 = j5 → ¬ is.toList = js.toList from fun h1 h2 h3 h4 h5 h6 => heq (by rw [h1, h2, h3, h4, h5, ba_ext _ _ h6]))
          clear heq
          (refine h_read 0 rfl (by kernel_rfl) (by kernel_rfl) (h_free rfl) ?_ ?_ ?_; rotate_left; (focus (intro v hv; go_simp; rfl)); go_simp)
          (refine h_read 1 rfl (by kernel_rfl) (by kernel_rfl) (h_free rfl) ?_ ?_ ?_; rotate_left; (focus (intro v hv; have q0 := (hv.cell (p := ⟨w.heap.size, 4, none⟩) R1.out.lt).trans C4.out; have q1 := (hv.cell (p := ⟨w1.heap.size, 4, none⟩) R2.out.lt).trans E4.out; go_simp; rfl)); go_simp)
          (refine h_read 2 rfl (by kernel_rfl) (by kernel_rfl) (h_free rfl) ?_ ?_ ?_; rotate_left; (focus (intro v hv; go_simp; rfl)); go_simp)
          (refine h_read 3 rfl (by kernel_rfl) (by kernel_rfl) (h_free rfl) ?_ ?_ ?_; rotate_left; (focus (intro v hv; go_simp; rfl)); go_simp)
          (refine h_read 4 rfl (by kernel_rfl) (by kernel_rfl) (h_free rfl) ?_ ?_ ?_; rotate_left; (focus (intro v hv; refine run_cells 52 (.tmp 51) ?_ b (o + k * 6) ?_ [.int .i64 i1, .int .i64 i2, .int .i64 i3, .int .i64 i4, .int .i64 i5, .string is] _ (fun j' u' hj => by rw [hv.cell (p := ⟨b, o + k * 6 + j', none⟩) (World.block_lt_of_cell? wr _ (X1.out j' u' hj))]; exact X1.out j' u' hj) Try.underlying52 rfl hd_size; (focus rfl); go_simp)); go_simp)
          (refine h_read 5 rfl (by kernel_rfl) (by kernel_rfl) (h_free rfl) ?_ ?_ ?_; rotate_left; (focus (intro v hv; go_simp; rfl)); go_simp)
          (refine h_read 6 rfl (by kernel_rfl) (by kernel_rfl) (h_free rfl) ?_ ?_ ?_; rotate_left; (focus (intro v hv; have q0 := (hv.cell (p := ⟨w.heap.size, 4, none⟩) R1.out.lt).trans C4.out; have q1 := (hv.cell (p := ⟨w1.heap.size, 4, none⟩) R2.out.lt).trans E4.out; go_simp; rfl)); go_simp)
          (refine h_read 7 rfl (by kernel_rfl) (by kernel_rfl) (h_free rfl) ?_ ?_ ?_; rotate_left; (focus (intro v hv; go_simp; rfl)); go_simp)
          (refine h_read 8 rfl (by kernel_rfl) (by kernel_rfl) (h_free rfl) ?_ ?_ ?_; rotate_left; (focus (intro v hv; go_simp; rfl)); go_simp)
          (refine h_read 9 rfl (by kernel_rfl) (by kernel_rfl) (h_free rfl) ?_ ?_ ?_; rotate_left; (focus (intro v hv; refine run_cells 52 (.tmp 56) ?_ b' (o' + k * 6) ?_ [.int .i64 j1, .int .i64 j2, .int .i64 j3, .int .i64 j4, .int .i64 j5, .string js] _ (fun j' u' hj => by rw [hv.cell (p := ⟨b', o' + k * 6 + j', none⟩) (World.block_lt_of_cell? wr _ (X2.out j' u' hj))]; exact X2.out j' u' hj) Try.underlying52 rfl hd_size; (focus rfl); go_simp)); go_simp)
          (refine h_read 10 rfl (by kernel_rfl) (by kernel_rfl) (h_free rfl) (.bool true) ?_ ?_; (focus (intro v hv; first | (go_simp; done) | (go_simp; exact HNE.out) | (go_simp; simp))); go_simp)
          refine h_done (by kernel_rfl) ?_
          go_wp2_with fail
          go_ret
          exact ⟨one (vbool (by rw [HF.out])), B.out.trans (D0.out.mono B.out.size)⟩
      · obtain rfl : n = k := by omega
        have hp := P.out
        rw [List.take_of_length_le (by rw [HL1.out]; exact Nat.le_refl _), List.take_of_length_le (by rw [HL2.out]; exact Nat.le_refl _)] at hp
        have HF := Lib.hid (show V = true from HV.out.2 (by rw [hp]))
        go_wp2_with fail
        go_ret
        exact ⟨one (vbool (by rw [HF.out])), B.out⟩
end Go.Proofs.Ytiopcojkdglapaa.W
