/- LAYER 18 (spaces): Same of the reference. -/
import Derived.Test.YtiopcojkdglapaaSpT
set_option linter.unusedSimpArgs false
set_option linter.unusedVariables false
namespace Go.Proofs.Ytiopcojkdglapaa.W
open Go Go.ChangeShapes Go.WideShapes Go.ChangeAt Go.RowKit
open Go.Proofs.Ytiopcojkdglapaa.P (enc dec)
open Go.Proofs.Ytiopcojkdglapaa.B (hasV)

-- ---- Same
def sameS (L M : List Sp) : Prop := L = M
def Sp.eqb (x y : Sp) : Bool := decide (x.name.data.toList = y.name.data.toList) && (decide (x.rd = y.rd) && decide (x.wr = y.wr))
theorem Sp.eqb_iff (x y : Sp) : x.eqb y = true ↔ x = y := by
  obtain ⟨⟨xn⟩, xr, xw⟩ := x
  obtain ⟨⟨yn⟩, yr, yw⟩ := y
  simp [Sp.eqb]
set_option maxRecDepth 100000 in
theorem eqSp (x y : Sp) (hx : x.fit) (hy : y.fit) (w : World) :
    (Op.equalIn 10000 24 (.agg #[.string x.name, .int .i64 x.rd, .int .i64 x.wr]) (.agg #[.string y.name, .int .i64 y.rd, .int .i64 y.wr])).run Try.prog w = .ok (x.eqb y) w := by
  have hk : ∀ c : Sp, c.fit → Try.prog.keyLits 3 24 (Value.agg #[.string c.name, .int .i64 c.rd, .int .i64 c.wr]).cells.toList = some [Lit.string c.name.data.toList, Lit.int .i64 c.rd, Lit.int .i64 c.wr] := by
    intro c hf
    have i64_wf : ∀ {x : Int}, SI x → (Lit.int .i64 x).wf = true := fun {x} h => by
      obtain ⟨h1, h2⟩ := h
      simp [Lit.wf, IntKind.min, IntKind.max, IntKind.bits, IntKind.signed]; omega
    have e1 := i64_wf hf.2.1
    have e2 := i64_wf hf.2.2
    have c3 : Try.prog.cellsOf 24 = 3 := by kernel_rfl
    have c1 : Try.prog.cellsOf 3 = 1 := by kernel_rfl
    have c2 : Try.prog.cellsOf 9 = 1 := by kernel_rfl
    have hs := hf.1
    simp [Program.keyLits, Value.cells, Try.underlying24, Try.underlying3, Try.underlying9, c3, c1, c2, e1, e2]
    rw [if_pos hs]
    rfl
  obtain ⟨r, hr, hiff⟩ := run_equalIn_deep (P := Try.prog) 9998 2 24 (by kernel_rfl) w 3 3 (.agg _) (.agg _) _ _ rfl rfl (hk x hx) (hk y hy)
  rw [hr]
  congr 1
  rw [Bool.eq_iff_iff, hiff]
  simp [Sp.eqb]
theorem sp_next {α : Type} (L M : List α) (k : Nat) (x : α) (hL : L[k]? = some x) (hM : M[k]? = some x) (h : L.take k = M.take k) : L.take (k + 1) = M.take (k + 1) := by
  have h1 := (List.getElem?_eq_some_iff.1 hL)
  have h2 := (List.getElem?_eq_some_iff.1 hM)
  obtain ⟨a1, b1⟩ := h1
  obtain ⟨a2, b2⟩ := h2
  rw [List.take_succ_eq_append_getElem a1, List.take_succ_eq_append_getElem a2, h, b1, b2]
set_option maxRecDepth 100000 in
set_option maxHeartbeats 8000000 in
theorem zsame (a a' : Option Addr) (n c n' c' : Nat) (L M : List Sp) (w : World) (h1 : Ls spE w a n c L) (h2 : Ls spE w a' n' c' M) (V : Bool) (hV : V = true ↔ L = M) :
    Calls Try.prog 21 #[.slice a n c, .slice a' n' c'] w fun x w' => x = .returned (.bool V) ∧ Below w.heap.size w w' := by
  have H1 := Lib.hid h1
  have H2 := Lib.hid h2
  have HV := Lib.hid hV
  have hm := h1.hmax
  have hle := h1.hle
  have HL1 := Lib.hid h1.hlen
  have HL2 := Lib.hid h2.hlen
  clear h1 h2 hV
  by_cases hn : n = n'
  · have hq : ((n : Int) != (n' : Int)) = false := by simp [hn]
    have HN := Lib.hid hn
    clear hn
    go_enter Try.func21, Try.ntmps21
    go_wp2_with fail
    go_loopw [5] (fun i wr => ∃ k : Nat, i = .int .i64 (k : Int) ∧ k ≤ n ∧ Hid (L.take k = M.take k) ∧ Hid (Below w.heap.size w wr)) (fun i _ => n - (intOf i).toNat)
    case atStart => exact ⟨0, rfl, Nat.zero_le _, Lib.hid rfl, Lib.hid (Below.refl _ _)⟩
    case round =>
      obtain ⟨k, rfl, hk, P, B⟩ := hrel
      by_cases hlt : k < n
      · obtain ⟨b, o, x, rfl, hx1, hc1, hf1⟩ := H1.out.at spOk B.out k hlt
        obtain ⟨b', o', y, rfl, hx2, hc2, hf2⟩ := H2.out.at spOk B.out k (by rw [← HN.out]; exact hlt)
        have X1 := Lib.hid hc1
        have X2 := Lib.hid hc2
        have KE := Lib.hid (fun w => eqSp x y hf1 hf2 w)
        obtain ⟨q, hq3⟩ : ∃ q, x.eqb y = q := ⟨_, rfl⟩
        rw [hq3] at KE
        have g1 : (0 : Int) ≤ (k : Int) := by omega
        have g2 : (k : Int) < (n : Int) := by omega
        have g3 : (k : Int) < (n' : Int) := by have := HN.out; omega
        have HX1 := Lib.hid hx1
        have HX2 := Lib.hid hx2
        have HQ := Lib.hid hq3
        clear hc1 hc2 hf1 hf2 hx1 hx2 hq3
        obtain ⟨xn, xr, xw⟩ := x
        obtain ⟨yn, yr, yw⟩ := y
        go_wp2_with fail
        refine region_h (fun v => Below wr.heap.size wr v) (by kernel_rfl) (by kernel_rfl) (Below.refl _ _).drew ?_
        obtain ⟨wd, hwd⟩ : ∃ wd, wr.drew = wd := ⟨_, rfl⟩
        have D0 : Hid (Below wr.heap.size wr wd) := Lib.hid (by rw [← hwd]; exact (Below.refl _ _).drew)
        rw [hwd]
        clear hwd
        rcases q with _ | _
        · have HF := Lib.hid (show V = false by
            cases hh : V with
            | false => rfl
            | true =>
              have h3 := HV.out.1 hh
              have h4 := HX1.out
              rw [h3, HX2.out] at h4
              exact absurd ((Sp.eqb_iff _ _).2 (Option.some.inj h4).symm) (by rw [HQ.out]; decide))
          have HNE := Lib.hid (show xn.toList = yn.toList → xr = yr → ¬ xw = yw from fun h1 h2 h3 => by
            have h4 : xn = yn := (eqB_iff _ _).1 (by unfold eqB; rw [h1]; simp)
            exact absurd ((Sp.eqb_iff ⟨xn, xr, xw⟩ ⟨yn, yr, yw⟩).2 (by rw [h4, h2, h3])) (by rw [HQ.out]; decide))
          (refine h_read 0 rfl (by kernel_rfl) (by kernel_rfl) (h_free rfl) ?_ ?_ ?_; rotate_left; (focus (intro v hv; go_simp; rfl)); go_simp)
          (refine h_read 1 rfl (by kernel_rfl) (by kernel_rfl) (h_free rfl) ?_ ?_ ?_; rotate_left; (focus (intro v hv; go_simp; rfl)); go_simp)
          (refine h_read 2 rfl (by kernel_rfl) (by kernel_rfl) (h_free rfl) ?_ ?_ ?_; rotate_left; (focus (intro v hv; go_simp; rfl)); go_simp)
          (refine h_read 3 rfl (by kernel_rfl) (by kernel_rfl) (h_free rfl) ?_ ?_ ?_; rotate_left; (focus (intro v hv; refine run_cells 24 (.tmp 19) ?_ b (o + k * 3) ?_ [.string xn, .int .i64 xr, .int .i64 xw] _ (fun j' u hj => by rw [hv.cell (p := ⟨b, o + k * 3 + j', none⟩) (World.block_lt_of_cell? wr _ (X1.out j' u hj))]; exact X1.out j' u hj) Try.underlying24 rfl sp_size; (focus rfl); go_simp)); go_simp)
          (refine h_read 4 rfl (by kernel_rfl) (by kernel_rfl) (h_free rfl) ?_ ?_ ?_; rotate_left; (focus (intro v hv; go_simp; rfl)); go_simp)
          (refine h_read 5 rfl (by kernel_rfl) (by kernel_rfl) (h_free rfl) ?_ ?_ ?_; rotate_left; (focus (intro v hv; go_simp; rfl)); go_simp)
          (refine h_read 6 rfl (by kernel_rfl) (by kernel_rfl) (h_free rfl) ?_ ?_ ?_; rotate_left; (focus (intro v hv; go_simp; rfl)); go_simp)
          (refine h_read 7 rfl (by kernel_rfl) (by kernel_rfl) (h_free rfl) ?_ ?_ ?_; rotate_left; (focus (intro v hv; refine run_cells 24 (.tmp 23) ?_ b' (o' + k * 3) ?_ [.string yn, .int .i64 yr, .int .i64 yw] _ (fun j' u hj => by rw [hv.cell (p := ⟨b', o' + k * 3 + j', none⟩) (World.block_lt_of_cell? wr _ (X2.out j' u hj))]; exact X2.out j' u hj) Try.underlying24 rfl sp_size; (focus rfl); go_simp)); go_simp)
          (refine h_read 8 rfl (by kernel_rfl) (by kernel_rfl) (h_free rfl) (.bool true) ?_ ?_; (focus (intro v hv; first | (go_simp; done) | (go_simp; exact HNE.out) | (go_simp; simp))); go_simp)
          refine h_done (by kernel_rfl) ?_
          go_wp2_with fail
          go_ret
          exact ⟨one (vbool (by rw [HF.out])), B.out.trans (D0.out.mono B.out.size)⟩
        · have hxy := (Sp.eqb_iff _ _).1 HQ.out
          have HNX := Lib.hid (sp_next L M k _ HX1.out (by rw [hxy]; exact HX2.out) P.out)
          injection hxy with i1 i2 i3
          subst i1 i2 i3
          (refine h_read 0 rfl (by kernel_rfl) (by kernel_rfl) (h_free rfl) ?_ ?_ ?_; rotate_left; (focus (intro v hv; go_simp; rfl)); go_simp)
          (refine h_read 1 rfl (by kernel_rfl) (by kernel_rfl) (h_free rfl) ?_ ?_ ?_; rotate_left; (focus (intro v hv; go_simp; rfl)); go_simp)
          (refine h_read 2 rfl (by kernel_rfl) (by kernel_rfl) (h_free rfl) ?_ ?_ ?_; rotate_left; (focus (intro v hv; go_simp; rfl)); go_simp)
          (refine h_read 3 rfl (by kernel_rfl) (by kernel_rfl) (h_free rfl) ?_ ?_ ?_; rotate_left; (focus (intro v hv; refine run_cells 24 (.tmp 19) ?_ b (o + k * 3) ?_ [.string xn, .int .i64 xr, .int .i64 xw] _ (fun j' u hj => by rw [hv.cell (p := ⟨b, o + k * 3 + j', none⟩) (World.block_lt_of_cell? wr _ (X1.out j' u hj))]; exact X1.out j' u hj) Try.underlying24 rfl sp_size; (focus rfl); go_simp)); go_simp)
          (refine h_read 4 rfl (by kernel_rfl) (by kernel_rfl) (h_free rfl) ?_ ?_ ?_; rotate_left; (focus (intro v hv; go_simp; rfl)); go_simp)
          (refine h_read 5 rfl (by kernel_rfl) (by kernel_rfl) (h_free rfl) ?_ ?_ ?_; rotate_left; (focus (intro v hv; go_simp; rfl)); go_simp)
          (refine h_read 6 rfl (by kernel_rfl) (by kernel_rfl) (h_free rfl) ?_ ?_ ?_; rotate_left; (focus (intro v hv; go_simp; rfl)); go_simp)
          (refine h_read 7 rfl (by kernel_rfl) (by kernel_rfl) (h_free rfl) ?_ ?_ ?_; rotate_left; (focus (intro v hv; refine run_cells 24 (.tmp 23) ?_ b' (o' + k * 3) ?_ [.string xn, .int .i64 xr, .int .i64 xw] _ (fun j' u hj => by rw [hv.cell (p := ⟨b', o' + k * 3 + j', none⟩) (World.block_lt_of_cell? wr _ (X2.out j' u hj))]; exact X2.out j' u hj) Try.underlying24 rfl sp_size; (focus rfl); go_simp)); go_simp)
          (refine h_read 8 rfl (by kernel_rfl) (by kernel_rfl) (h_free rfl) (.bool false) ?_ ?_; (focus (intro v hv; first | (go_simp; done) | (go_simp; exact HNE.out) | (go_simp; simp))); go_simp)
          refine h_done (by kernel_rfl) ?_
          go_wp2_with fail
          go_roundw
          case rel => exact ⟨k + 1, vint (by omega), by omega, HNX, Lib.hid (B.out.trans (D0.out.mono B.out.size))⟩
          case measure => simp [intOf]; omega
      · obtain rfl : n = k := by omega
        have hp := P.out
        rw [List.take_of_length_le (by rw [HL1.out]; exact Nat.le_refl _), List.take_of_length_le (by rw [HL2.out, HN.out]; exact Nat.le_refl _)] at hp
        have HF := Lib.hid (show V = true from HV.out.2 hp)
        go_wp2_with fail
        go_ret
        exact ⟨one (vbool (by rw [HF.out])), B.out⟩
  · have hq : ((n : Int) != (n' : Int)) = true := by simp; omega
    have HF := Lib.hid (show V = false by
      cases hh : V with
      | false => rfl
      | true =>
        have h3 := congrArg List.length (HV.out.1 hh)
        rw [HL1.out, HL2.out] at h3
        exact absurd h3 hn)
    go_enter Try.func21, Try.ntmps21
    go_wp2_with fail
    go_ret
    exact ⟨one (vbool (by rw [HF.out])), Below.refl _ _⟩
end Go.Proofs.Ytiopcojkdglapaa.W
