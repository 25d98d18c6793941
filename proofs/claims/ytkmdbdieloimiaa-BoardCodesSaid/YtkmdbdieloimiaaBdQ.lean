/- LAYER 25 (board): Same of both, of any boards. -/
import Derived.Test.YtkmdbdieloimiaaBdJ
set_option linter.unusedSimpArgs false
set_option linter.unusedVariables false
namespace Go.Proofs.Ytkmdbdieloimiaa.W
open Go Go.ChangeShapes Go.WideShapes Go.ChangeAt Go.RowKit
open Go.Proofs.Ytkmdbdieloimiaa.S

def Sh.eqb (x y : Sh) : Bool := decide (x.ln = y.ln) && decide (x.by' = y.by')
theorem Sh.eqb_iff (x y : Sh) : x.eqb y = true ↔ x = y := by
  obtain ⟨xl, xb⟩ := x
  obtain ⟨yl, yb⟩ := y
  simp [Sh.eqb]
set_option maxRecDepth 100000 in
theorem eqSh (x y : Sh) (hx : x.fit) (hy : y.fit) (w : World) :
    (Op.equalIn 10000 58 (.agg #[.int .i64 x.ln, .int .i64 x.by']) (.agg #[.int .i64 y.ln, .int .i64 y.by'])).run Try.prog w = .ok (x.eqb y) w := by
  have hk : ∀ c : Sh, c.fit → Try.prog.keyLits 3 58 (Value.agg #[.int .i64 c.ln, .int .i64 c.by']).cells.toList = some [Lit.int .i64 c.ln, Lit.int .i64 c.by'] := by
    intro c hf
    have e1 := wf64 hf.ln
    have e2 := wf64 hf.by'
    have c3 : Try.prog.cellsOf 58 = 2 := by kernel_rfl
    have c1 : Try.prog.cellsOf 3 = 1 := by kernel_rfl
    simp [Program.keyLits, Value.cells, Try.underlying58, Try.underlying3, c3, c1, e1, e2]
    try rfl
  obtain ⟨r, hr, hiff⟩ := run_equalIn_deep (P := Try.prog) 9998 2 58 (by kernel_rfl) w 3 3 (.agg _) (.agg _) _ _ rfl rfl (hk x hx) (hk y hy)
  rw [hr]
  congr 1
  rw [Bool.eq_iff_iff, hiff]
  simp [Sh.eqb]
theorem sh_next {α : Type} (L M : List α) (k : Nat) (x : α) (hL : L[k]? = some x) (hM : M[k]? = some x) (h : L.take k = M.take k) : L.take (k + 1) = M.take (k + 1) := by
  have h1 := (List.getElem?_eq_some_iff.1 hL)
  have h2 := (List.getElem?_eq_some_iff.1 hM)
  obtain ⟨a1, b1⟩ := h1
  obtain ⟨a2, b2⟩ := h2
  rw [List.take_succ_eq_append_getElem a1, List.take_succ_eq_append_getElem a2, h, b1, b2]
set_option maxRecDepth 100000 in
set_option maxHeartbeats 8000000 in
theorem shequalV (a a' : Option Addr) (n c n' c' : Nat) (L M : List Sh) (w : World) (h1 : Ls shE w a n c L) (h2 : Ls shE w a' n' c' M) (V : Bool) (hV : V = true ↔ L = M) :
    Calls Try.prog 41 #[.slice a n c, .slice a' n' c'] w fun x w' => x = .returned (.bool V) ∧ Below w.heap.size w w' := by
  have H1 := Lib.hid h1
  have H2 := Lib.hid h2
  have HV := Lib.hid hV
  have hm := h1.hmax
  have hle := h1.hle
  have HL1 := Lib.hid h1.hlen
  have HL2 := Lib.hid h2.hlen
  clear h1 h2 hV
  by_cases hn : n = n'
  · have hq : ((n : Int) != (n' : Int)) = false := by simp [hn]
    have HN := Lib.hid hn
    clear hn
    go_enter Try.func41, Try.ntmps41
    go_wp2_with fail
    go_loopw [13] (fun i wr => ∃ k : Nat, i = .int .i64 (k : Int) ∧ k ≤ n ∧ Hid (L.take k = M.take k) ∧ Hid (Below w.heap.size w wr)) (fun i _ => n - (intOf i).toNat)
    case atStart => exact ⟨0, rfl, Nat.zero_le _, Lib.hid rfl, Lib.hid (Below.refl _ _)⟩
    case round =>
      obtain ⟨k, rfl, hk, P, B⟩ := hrel
      by_cases hlt : k < n
      · obtain ⟨b, o, x, rfl, hx1, hc1, hf1⟩ := H1.out.at shOk B.out k hlt
        obtain ⟨b', o', y, rfl, hx2, hc2, hf2⟩ := H2.out.at shOk B.out k (by rw [← HN.out]; exact hlt)
        have X1 := Lib.hid hc1
        have X2 := Lib.hid hc2
        have KE := Lib.hid (fun w => eqSh x y hf1 hf2 w)
        obtain ⟨q, hq3⟩ : ∃ q, x.eqb y = q := ⟨_, rfl⟩
        rw [hq3] at KE
        have g1 : (0 : Int) ≤ (k : Int) := by omega
        have g2 : (k : Int) < (n : Int) := by omega
        have g3 : (k : Int) < (n' : Int) := by have := HN.out; omega
        have HX1 := Lib.hid hx1
        have HX2 := Lib.hid hx2
        have HQ := Lib.hid hq3
        clear hc1 hc2 hf1 hf2 hx1 hx2 hq3
        obtain ⟨xl, xb⟩ := x
        obtain ⟨yl, yb⟩ := y
        go_wp2_with fail
        refine region_h (fun v => Below wr.heap.size wr v) (by kernel_rfl) (by kernel_rfl) (Below.refl _ _).drew ?_
        obtain ⟨wd, hwd⟩ : ∃ wd, wr.drew = wd := ⟨_, rfl⟩
        have D0 : Hid (Below wr.heap.size wr wd) := Lib.hid (by rw [← hwd]; exact (Below.refl _ _).drew)
        rw [hwd]
        clear hwd
        rcases q with _ | _
        · have HF := Lib.hid (show V = false by
            cases hh : V with
            | false => rfl
            | true =>
              have h3 := HV.out.1 hh
              have h4 := HX1.out
              rw [h3, HX2.out] at h4
              exact absurd ((Sh.eqb_iff _ _).2 (Option.some.inj h4).symm) (by rw [HQ.out]; decide))
          have HNE := Lib.hid (show xl = yl → ¬ xb = yb from fun h1 h2 => absurd ((Sh.eqb_iff ⟨xl, xb⟩ ⟨yl, yb⟩).2 (by rw [h1, h2])) (by rw [HQ.out]; decide))
          (refine h_read 0 rfl (by kernel_rfl) (by kernel_rfl) (h_free rfl) ?_ ?_ ?_; rotate_left; (focus (intro v hv; go_simp; rfl)); go_simp)
          (refine h_read 1 rfl (by kernel_rfl) (by kernel_rfl) (h_free rfl) ?_ ?_ ?_; rotate_left; (focus (intro v hv; go_simp; rfl)); go_simp)
          (refine h_read 2 rfl (by kernel_rfl) (by kernel_rfl) (h_free rfl) ?_ ?_ ?_; rotate_left; (focus (intro v hv; go_simp; rfl)); go_simp)
          (refine h_read 3 rfl (by kernel_rfl) (by kernel_rfl) (h_free rfl) ?_ ?_ ?_; rotate_left; (focus (intro v hv; refine run_cells 58 (.tmp 18) ?_ b (o + k * 2) ?_ [.int .i64 xl, .int .i64 xb] _ (fun j' u hj => by rw [hv.cell (p := ⟨b, o + k * 2 + j', none⟩) (World.block_lt_of_cell? wr _ (X1.out j' u hj))]; exact X1.out j' u hj) Try.underlying58 rfl sh_size; (focus rfl); go_simp)); go_simp)
          (refine h_read 4 rfl (by kernel_rfl) (by kernel_rfl) (h_free rfl) ?_ ?_ ?_; rotate_left; (focus (intro v hv; go_simp; rfl)); go_simp)
          (refine h_read 5 rfl (by kernel_rfl) (by kernel_rfl) (h_free rfl) ?_ ?_ ?_; rotate_left; (focus (intro v hv; go_simp; rfl)); go_simp)
          (refine h_read 6 rfl (by kernel_rfl) (by kernel_rfl) (h_free rfl) ?_ ?_ ?_; rotate_left; (focus (intro v hv; go_simp; rfl)); go_simp)
          (refine h_read 7 rfl (by kernel_rfl) (by kernel_rfl) (h_free rfl) ?_ ?_ ?_; rotate_left; (focus (intro v hv; refine run_cells 58 (.tmp 22) ?_ b' (o' + k * 2) ?_ [.int .i64 yl, .int .i64 yb] _ (fun j' u hj => by rw [hv.cell (p := ⟨b', o' + k * 2 + j', none⟩) (World.block_lt_of_cell? wr _ (X2.out j' u hj))]; exact X2.out j' u hj) Try.underlying58 rfl sh_size; (focus rfl); go_simp)); go_simp)
          (refine h_read 8 rfl (by kernel_rfl) (by kernel_rfl) (h_free rfl) (.bool true) ?_ ?_; (focus (intro v hv; first | (go_simp; done) | (go_simp; exact HNE.out) | (go_simp; simp))); go_simp)
          refine h_done (by kernel_rfl) ?_
          go_wp2_with fail
          go_ret
          exact ⟨one (vbool (by rw [HF.out])), B.out.trans (D0.out.mono B.out.size)⟩
        · have hxy := (Sh.eqb_iff _ _).1 HQ.out
          have HNX := Lib.hid (sh_next L M k _ HX1.out (by rw [hxy]; exact HX2.out) P.out)
          injection hxy with i1 i2
          subst i1 i2
          (refine h_read 0 rfl (by kernel_rfl) (by kernel_rfl) (h_free rfl) ?_ ?_ ?_; rotate_left; (focus (intro v hv; go_simp; rfl)); go_simp)
          (refine h_read 1 rfl (by kernel_rfl) (by kernel_rfl) (h_free rfl) ?_ ?_ ?_; rotate_left; (focus (intro v hv; go_simp; rfl)); go_simp)
          (refine h_read 2 rfl (by kernel_rfl) (by kernel_rfl) (h_free rfl) ?_ ?_ ?_; rotate_left; (focus (intro v hv; go_simp; rfl)); go_simp)
          (refine h_read 3 rfl (by kernel_rfl) (by kernel_rfl) (h_free rfl) ?_ ?_ ?_; rotate_left; (focus (intro v hv; refine run_cells 58 (.tmp 18) ?_ b (o + k * 2) ?_ [.int .i64 xl, .int .i64 xb] _ (fun j' u hj => by rw [hv.cell (p := ⟨b, o + k * 2 + j', none⟩) (World.block_lt_of_cell? wr _ (X1.out j' u hj))]; exact X1.out j' u hj) Try.underlying58 rfl sh_size; (focus rfl); go_simp)); go_simp)
          (refine h_read 4 rfl (by kernel_rfl) (by kernel_rfl) (h_free rfl) ?_ ?_ ?_; rotate_left; (focus (intro v hv; go_simp; rfl)); go_simp)
          (refine h_read 5 rfl (by kernel_rfl) (by kernel_rfl) (h_free rfl) ?_ ?_ ?_; rotate_left; (focus (intro v hv; go_simp; rfl)); go_simp)
          (refine h_read 6 rfl (by kernel_rfl) (by kernel_rfl) (h_free rfl) ?_ ?_ ?_; rotate_left; (focus (intro v hv; go_simp; rfl)); go_simp)
          (refine h_read 7 rfl (by kernel_rfl) (by kernel_rfl) (h_free rfl) ?_ ?_ ?_; rotate_left; (focus (intro v hv; refine run_cells 58 (.tmp 22) ?_ b' (o' + k * 2) ?_ [.int .i64 xl, .int .i64 xb] _ (fun j' u hj => by rw [hv.cell (p := ⟨b', o' + k * 2 + j', none⟩) (World.block_lt_of_cell? wr _ (X2.out j' u hj))]; exact X2.out j' u hj) Try.underlying58 rfl sh_size; (focus rfl); go_simp)); go_simp)
          (refine h_read 8 rfl (by kernel_rfl) (by kernel_rfl) (h_free rfl) (.bool false) ?_ ?_; (focus (intro v hv; first | (go_simp; done) | (go_simp; exact HNE.out) | (go_simp; simp))); go_simp)
          refine h_done (by kernel_rfl) ?_
          go_wp2_with fail
          go_roundw
          case rel => exact ⟨k + 1, vint (by omega), by omega, HNX, Lib.hid (B.out.trans (D0.out.mono B.out.size))⟩
          case measure => simp [intOf]; omega
      · obtain rfl : n = k := by omega
        have hp := P.out
        rw [List.take_of_length_le (by rw [HL1.out]; exact Nat.le_refl _), List.take_of_length_le (by rw [HL2.out, HN.out]; exact Nat.le_refl _)] at hp
        have HF := Lib.hid (show V = true from HV.out.2 hp)
        go_wp2_with fail
        go_ret
        exact ⟨one (vbool (by rw [HF.out])), B.out⟩
  · have hq : ((n : Int) != (n' : Int)) = true := by simp; omega
    have HF := Lib.hid (show V = false by
      cases hh : V with
      | false => rfl
      | true =>
        have h3 := congrArg List.length (HV.out.1 hh)
        rw [HL1.out, HL2.out] at h3
        exact absurd h3 hn)
    go_enter Try.func41, Try.ntmps41
    go_wp2_with fail
    go_ret
    exact ⟨one (vbool (by rw [HF.out])), Below.refl _ _⟩
set_option maxRecDepth 100000 in
set_option maxHeartbeats 8000000 in
theorem pbsame (v v' : Value) (b b' : Bd) (w : World) (h : BdV w v b) (h' : BdV w v' b') (V : Bool) (hV : V = true ↔ b = b') : Calls Try.prog 12 #[v, v'] w fun x w' => x = .returned (.bool V) ∧ Below w.heap.size w w' := by
  obtain ⟨a, n, c, rfl, hc, hL⟩ := h
  obtain ⟨a', n', c', rfl, hc', hL'⟩ := h'
  obtain ⟨cp, L⟩ := b
  obtain ⟨cq, M⟩ := b'
  dsimp only at hc hc' hL hL' ⊢
  have HV := Lib.hid hV
  have HE := Lib.hid (fun w' (hb : Below w.heap.size w w') (q : Bool) (hq : q = true ↔ L = M) => shequalV a a' n c n' c' L M w' (hL.mono shOk hb) (hL'.mono shOk hb) q hq)
  clear hL hL' hc hc' hV
  by_cases he : cp = cq
  · have HQ := Lib.hid (show V = true ↔ L = M from ⟨fun e => by have := HV.out.1 e; injection this, fun e => HV.out.2 (by rw [he, e])⟩)
    have he2 : (cp == cq) = true := by simp [he]
    clear he HV
    go_enter Try.func12, Try.ntmps12
    go_wp2_with (first
      | ((with_reducible refine box_row (o := ⟨some 2, _, _, _, _, _⟩) rfl _ _ rfl (bdC cp a n c) rfl ?_); intro w1 hr hb hz; have R1 := Lib.hid hr; have B1 := Lib.hid hb; clear hr hb hz)
      | ((with_reducible refine box_row (o := ⟨some 3, _, _, _, _, _⟩) rfl _ _ rfl (bdC cq a' n' c') rfl ?_); intro w2 hr hb hz; obtain ⟨c0, c1⟩ := (R1.out.below hb R1.out.lt).k2; obtain ⟨d0, d1⟩ := hr.k2; have B2 := Lib.hid (B1.out.trans (hb.mono B1.out.size)); clear hr hb hz)
      | (go_at_call 41; (with_reducible refine (HE.out w2 B2.out V HQ.out).mono ?_); rintro x w3 ⟨rfl, hb⟩; have B3 := Lib.hid (B2.out.trans (hb.mono B2.out.size)); clear hb))
    go_ret
    exact ⟨rfl, B3.out⟩
  · have HF := Lib.hid (show V = false by
      cases hh : V with
      | false => rfl
      | true => exact absurd (by have := HV.out.1 hh; injection this) he)
    have he2 : (cp == cq) = false := by simp [he]
    go_enter Try.func12, Try.ntmps12
    go_wp2_with (first
      | ((with_reducible refine box_row (o := ⟨some 2, _, _, _, _, _⟩) rfl _ _ rfl (bdC cp a n c) rfl ?_); intro w1 hr hb hz; have R1 := Lib.hid hr; have B1 := Lib.hid hb; clear hr hb hz)
      | ((with_reducible refine box_row (o := ⟨some 3, _, _, _, _, _⟩) rfl _ _ rfl (bdC cq a' n' c') rfl ?_); intro w2 hr hb hz; obtain ⟨c0, c1⟩ := (R1.out.below hb R1.out.lt).k2; obtain ⟨d0, d1⟩ := hr.k2; have B2 := Lib.hid (B1.out.trans (hb.mono B1.out.size)); clear hr hb hz))
    go_ret
    exact ⟨one (vbool (by rw [HF.out])), B2.out⟩
set_option maxRecDepth 100000 in
set_option maxHeartbeats 16000000 in
theorem zbsame (v v' : Value) (b b' : Bd) (w : World) (h : BdV w v b) (h' : BdV w v' b') (V : Bool) (hV : V = true ↔ b = b') : Calls Try.prog 6 #[v, v'] w fun x w' => x = .returned (.bool V) ∧ Below w.heap.size w w' := by
  obtain ⟨a, n, c, rfl, hc, hL⟩ := h
  obtain ⟨a', n', c', rfl, hc', hL'⟩ := h'
  obtain ⟨cp, L⟩ := b
  obtain ⟨cq, M⟩ := b'
  dsimp only at hc hc' hL hL' ⊢
  have HV0 := Lib.hid hV
  have H1 := Lib.hid hL
  have H2 := Lib.hid hL'
  have HL1 := Lib.hid hL.hlen
  have HL2 := Lib.hid hL'.hlen
  have hm := hL.hmax
  have hle := hL.hle
  clear hL hL' hc hc' hV
  by_cases he : cp = cq
  case neg =>
    have HF := Lib.hid (show V = false by
      cases hh : V with
      | false => rfl
      | true => exact absurd (by have := HV0.out.1 hh; injection this) he)
    have he2 : (cp != cq) = true := by simp [he]
    go_enter Try.func6, Try.ntmps6
    go_wp2_with (first
      | ((with_reducible refine box_row (o := ⟨some 2, _, _, _, _, _⟩) rfl _ _ rfl (bdC cp a n c) rfl ?_); intro w1 hr hb hz; have R1 := Lib.hid hr; have B1 := Lib.hid hb; clear hr hb hz)
      | ((with_reducible refine box_row (o := ⟨some 3, _, _, _, _, _⟩) rfl _ _ rfl (bdC cq a' n' c') rfl ?_); intro w2 hr hb hz; have R2 := Lib.hid (R1.out.below hb R1.out.lt); have Q2 := Lib.hid hr; obtain ⟨c0, c1⟩ := R2.out.k2; obtain ⟨d0, d1⟩ := hr.k2; have B2 := Lib.hid (B1.out.trans (hb.mono B1.out.size)); clear hr hb hz))
    go_ret
    exact ⟨one (vbool (by rw [HF.out])), B2.out⟩
  have HV := Lib.hid (show V = true ↔ L = M from ⟨fun e => by have := HV0.out.1 e; injection this, fun e => HV0.out.2 (by rw [he, e])⟩)
  have he2 : (cp != cq) = false := by simp [he]
  clear HV0 he
  by_cases hn : n = n'
  case neg =>
    have hq : ((n : Int) != (n' : Int)) = true := by simp; omega
    have HF := Lib.hid (show V = false by
      cases hh : V with
      | false => rfl
      | true =>
        have h3 := congrArg List.length (HV.out.1 hh)
        rw [HL1.out, HL2.out] at h3
        exact absurd h3 hn)
    go_enter Try.func6, Try.ntmps6
    go_wp2_with (first
      | ((with_reducible refine box_row (o := ⟨some 2, _, _, _, _, _⟩) rfl _ _ rfl (bdC cp a n c) rfl ?_); intro w1 hr hb hz; have R1 := Lib.hid hr; have B1 := Lib.hid hb; clear hr hb hz)
      | ((with_reducible refine box_row (o := ⟨some 3, _, _, _, _, _⟩) rfl _ _ rfl (bdC cq a' n' c') rfl ?_); intro w2 hr hb hz; have R2 := Lib.hid (R1.out.below hb R1.out.lt); have Q2 := Lib.hid hr; obtain ⟨c0, c1⟩ := R2.out.k2; obtain ⟨d0, d1⟩ := hr.k2; have B2 := Lib.hid (B1.out.trans (hb.mono B1.out.size)); clear hr hb hz))
    go_ret
    exact ⟨one (vbool (by rw [HF.out])), B2.out⟩
  have hq : ((n : Int) != (n' : Int)) = false := by simp [hn]
  have HN := Lib.hid hn
  clear hn
  go_enter Try.func6, Try.ntmps6
  go_wp2_with (first
    | ((with_reducible refine box_row (o := ⟨some 2, _, _, _, _, _⟩) rfl _ _ rfl (bdC cp a n c) rfl ?_); intro w1 hr hb hz; have R1 := Lib.hid hr; have B1 := Lib.hid hb; clear hr hb hz)
    | ((with_reducible refine box_row (o := ⟨some 3, _, _, _, _, _⟩) rfl _ _ rfl (bdC cq a' n' c') rfl ?_); intro w2 hr hb hz; have R2 := Lib.hid (R1.out.below hb R1.out.lt); have Q2 := Lib.hid hr; obtain ⟨c0, c1⟩ := R2.out.k2; obtain ⟨d0, d1⟩ := hr.k2; have B2 := Lib.hid (B1.out.trans (hb.mono B1.out.size)); clear hr hb hz))
  clear c0 c1 d0 d1
  go_loopw [5] (fun i wr => ∃ k : Nat, i = .int .i64 (k : Int) ∧ k ≤ n ∧ Hid (L.take k = M.take k) ∧ Hid (Below w2.heap.size w2 wr)) (fun i _ => n - (intOf i).toNat)
  case atStart => exact ⟨0, rfl, Nat.zero_le _, Lib.hid rfl, Lib.hid (Below.refl _ _)⟩
  case round =>
    obtain ⟨k, rfl, hk, P, B0⟩ := hrel
    have B := Lib.hid (B2.out.trans (B0.out.mono B2.out.size))
    have R := Lib.hid (R2.out.below B0.out R2.out.lt)
    have R' := Lib.hid (Q2.out.below B0.out Q2.out.lt)
    obtain ⟨c0, c1⟩ := R.out.k2
    obtain ⟨d0, d1⟩ := R'.out.k2
    by_cases hlt : k < n
    · obtain ⟨b, o, x, rfl, hx1, hc1, hf1⟩ := H1.out.at shOk B.out k hlt
      obtain ⟨b', o', y, rfl, hx2, hc2, hf2⟩ := H2.out.at shOk B.out k (by rw [← HN.out]; exact hlt)
      have X1 := Lib.hid hc1
      have X2 := Lib.hid hc2
      have KE := Lib.hid (fun w => eqSh x y hf1 hf2 w)
      obtain ⟨q, hq3⟩ : ∃ q, x.eqb y = q := ⟨_, rfl⟩
      rw [hq3] at KE
      have g1 : (0 : Int) ≤ (k : Int) := by omega
      have g2 : (k : Int) < (n : Int) := by omega
      have g3 : (k : Int) < (n' : Int) := by have := HN.out; omega
      have HX1 := Lib.hid hx1
      have HX2 := Lib.hid hx2
      have HQ := Lib.hid hq3
      clear hc1 hc2 hf1 hf2 hx1 hx2 hq3
      obtain ⟨xl, xb⟩ := x
      obtain ⟨yl, yb⟩ := y
      go_wp2_with fail
      refine region_h (fun v => Below wr.heap.size wr v) (by kernel_rfl) (by kernel_rfl) (Below.refl _ _).drew ?_
      obtain ⟨wd, hwd⟩ : ∃ wd, wr.drew = wd := ⟨_, rfl⟩
      have D0 : Hid (Below wr.heap.size wr wd) := Lib.hid (by rw [← hwd]; exact (Below.refl _ _).drew)
      rw [hwd]
      clear hwd
      rcases q with _ | _
      · have HF := Lib.hid (show V = false by
          cases hh : V with
          | false => rfl
          | true =>
            have h3 := HV.out.1 hh
            have h4 := HX1.out
            rw [h3, HX2.out] at h4
            exact absurd ((Sh.eqb_iff _ _).2 (Option.some.inj h4).symm) (by rw [HQ.out]; decide))
        have HNE := Lib.hid (show xl = yl → ¬ xb = yb from fun h1 h2 => absurd ((Sh.eqb_iff ⟨xl, xb⟩ ⟨yl, yb⟩).2 (by rw [h1, h2])) (by rw [HQ.out]; decide))
        (refine h_read 0 rfl (by kernel_rfl) (by kernel_rfl) (h_free rfl) ?_ ?_ ?_; rotate_left; (focus (intro v hv; go_simp; rfl)); go_simp)
        (refine h_read 1 rfl (by kernel_rfl) (by kernel_rfl) (h_free rfl) ?_ ?_ ?_; rotate_left; (focus (intro v hv; obtain ⟨c0, c1⟩ := (R.out.below hv R.out.lt).k2; obtain ⟨d0, d1⟩ := (R'.out.below hv R'.out.lt).k2; go_simp; rfl)); go_simp)
        (refine h_read 2 rfl (by kernel_rfl) (by kernel_rfl) (h_free rfl) ?_ ?_ ?_; rotate_left; (focus (intro v hv; go_simp; rfl)); go_simp)
        (refine h_read 3 rfl (by kernel_rfl) (by kernel_rfl) (h_free rfl) ?_ ?_ ?_; rotate_left; (focus (intro v hv; go_simp; rfl)); go_simp)
        (refine h_read 4 rfl (by kernel_rfl) (by kernel_rfl) (h_free rfl) ?_ ?_ ?_; rotate_left; (focus (intro v hv; refine run_cells 58 (.tmp 30) ?_ b (o + k * 2) ?_ [.int .i64 xl, .int .i64 xb] _ (fun j' u hj => by rw [hv.cell (p := ⟨b, o + k * 2 + j', none⟩) (World.block_lt_of_cell? wr _ (X1.out j' u hj))]; exact X1.out j' u hj) Try.underlying58 rfl sh_size; (focus rfl); go_simp)); go_simp)
        (refine h_read 5 rfl (by kernel_rfl) (by kernel_rfl) (h_free rfl) ?_ ?_ ?_; rotate_left; (focus (intro v hv; go_simp; rfl)); go_simp)
        (refine h_read 6 rfl (by kernel_rfl) (by kernel_rfl) (h_free rfl) ?_ ?_ ?_; rotate_left; (focus (intro v hv; obtain ⟨c0, c1⟩ := (R.out.below hv R.out.lt).k2; obtain ⟨d0, d1⟩ := (R'.out.below hv R'.out.lt).k2; go_simp; rfl)); go_simp)
        (refine h_read 7 rfl (by kernel_rfl) (by kernel_rfl) (h_free rfl) ?_ ?_ ?_; rotate_left; (focus (intro v hv; go_simp; rfl)); go_simp)
        (refine h_read 8 rfl (by kernel_rfl) (by kernel_rfl) (h_free rfl) ?_ ?_ ?_; rotate_left; (focus (intro v hv; go_simp; rfl)); go_simp)
        (refine h_read 9 rfl (by kernel_rfl) (by kernel_rfl) (h_free rfl) ?_ ?_ ?_; rotate_left; (focus (intro v hv; refine run_cells 58 (.tmp 35) ?_ b' (o' + k * 2) ?_ [.int .i64 yl, .int .i64 yb] _ (fun j' u hj => by rw [hv.cell (p := ⟨b', o' + k * 2 + j', none⟩) (World.block_lt_of_cell? wr _ (X2.out j' u hj))]; exact X2.out j' u hj) Try.underlying58 rfl sh_size; (focus rfl); go_simp)); go_simp)
        (refine h_read 10 rfl (by kernel_rfl) (by kernel_rfl) (h_free rfl) (.bool true) ?_ ?_; (focus (intro v hv; first | (go_simp; done) | (go_simp; exact HNE.out) | (go_simp; simp))); go_simp)
        refine h_done (by kernel_rfl) ?_
        go_wp2_with fail
        go_ret
        exact ⟨one (vbool (by rw [HF.out])), B.out.trans (D0.out.mono B.out.size)⟩
      · have hxy := (Sh.eqb_iff _ _).1 HQ.out
        have HNX := Lib.hid (sh_next L M k _ HX1.out (by rw [hxy]; exact HX2.out) P.out)
        injection hxy with i1 i2
        subst i1 i2
        (refine h_read 0 rfl (by kernel_rfl) (by kernel_rfl) (h_free rfl) ?_ ?_ ?_; rotate_left; (focus (intro v hv; go_simp; rfl)); go_simp)
        (refine h_read 1 rfl (by kernel_rfl) (by kernel_rfl) (h_free rfl) ?_ ?_ ?_; rotate_left; (focus (intro v hv; obtain ⟨c0, c1⟩ := (R.out.below hv R.out.lt).k2; obtain ⟨d0, d1⟩ := (R'.out.below hv R'.out.lt).k2; go_simp; rfl)); go_simp)
        (refine h_read 2 rfl (by kernel_rfl) (by kernel_rfl) (h_free rfl) ?_ ?_ ?_; rotate_left; (focus (intro v hv; go_simp; rfl)); go_simp)
        (refine h_read 3 rfl (by kernel_rfl) (by kernel_rfl) (h_free rfl) ?_ ?_ ?_; rotate_left; (focus (intro v hv; go_simp; rfl)); go_simp)
        (refine h_read 4 rfl (by kernel_rfl) (by kernel_rfl) (h_free rfl) ?_ ?_ ?_; rotate_left; (focus (intro v hv; refine run_cells 58 (.tmp 30) ?_ b (o + k * 2) ?_ [.int .i64 xl, .int .i64 xb] _ (fun j' u hj => by rw [hv.cell (p := ⟨b, o + k * 2 + j', none⟩) (World.block_lt_of_cell? wr _ (X1.out j' u hj))]; exact X1.out j' u hj) Try.underlying58 rfl sh_size; (focus rfl); go_simp)); go_simp)
        (refine h_read 5 rfl (by kernel_rfl) (by kernel_rfl) (h_free rfl) ?_ ?_ ?_; rotate_left; (focus (intro v hv; go_simp; rfl)); go_simp)
        (refine h_read 6 rfl (by kernel_rfl) (by kernel_rfl) (h_free rfl) ?_ ?_ ?_; rotate_left; (focus (intro v hv; obtain ⟨c0, c1⟩ := (R.out.below hv R.out.lt).k2; obtain ⟨d0, d1⟩ := (R'.out.below hv R'.out.lt).k2; go_simp; rfl)); go_simp)
        (refine h_read 7 rfl (by kernel_rfl) (by kernel_rfl) (h_free rfl) ?_ ?_ ?_; rotate_left; (focus (intro v hv; go_simp; rfl)); go_simp)
        (refine h_read 8 rfl (by kernel_rfl) (by kernel_rfl) (h_free rfl) ?_ ?_ ?_; rotate_left; (focus (intro v hv; go_simp; rfl)); go_simp)
        (refine h_read 9 rfl (by kernel_rfl) (by kernel_rfl) (h_free rfl) ?_ ?_ ?_; rotate_left; (focus (intro v hv; refine run_cells 58 (.tmp 35) ?_ b' (o' + k * 2) ?_ [.int .i64 xl, .int .i64 xb] _ (fun j' u hj => by rw [hv.cell (p := ⟨b', o' + k * 2 + j', none⟩) (World.block_lt_of_cell? wr _ (X2.out j' u hj))]; exact X2.out j' u hj) Try.underlying58 rfl sh_size; (focus rfl); go_simp)); go_simp)
        (refine h_read 10 rfl (by kernel_rfl) (by kernel_rfl) (h_free rfl) (.bool false) ?_ ?_; (focus (intro v hv; first | (go_simp; done) | (go_simp; exact HNE.out) | (go_simp; simp))); go_simp)
        refine h_done (by kernel_rfl) ?_
        go_wp2_with fail
        go_roundw
        case rel => exact ⟨k + 1, vint (by omega), by omega, HNX, Lib.hid (B0.out.trans (D0.out.mono B0.out.size))⟩
        case measure => simp [intOf]; omega
    · obtain rfl : n = k := by omega
      have hp := P.out
      rw [List.take_of_length_le (by rw [HL1.out]; exact Nat.le_refl _), List.take_of_length_le (by rw [HL2.out, HN.out]; exact Nat.le_refl _)] at hp
      have HF := Lib.hid (show V = true from HV.out.2 hp)
      go_wp2_with fail
      go_ret
      exact ⟨one (vbool (by rw [HF.out])), B.out⟩
end Go.Proofs.Ytkmdbdieloimiaa.W
