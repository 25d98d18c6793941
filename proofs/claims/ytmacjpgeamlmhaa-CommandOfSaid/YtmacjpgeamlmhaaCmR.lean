/- LAYER 23 (command): the law CommandOf. -/
import Derived.Test.YtmacjpgeamlmhaaCmQ
import Derived.Test.YtmacjpgeamlmhaaCmT
import Derived.Test.YtmacjpgeamlmhaaCmW
import Derived.Test.YtmacjpgeamlmhaaPk
import Derived.Test.YtmacjpgeamlmhaaTail
import Derived.Deep.CutBlock
set_option linter.unusedSimpArgs false
set_option linter.unusedVariables false
namespace Go.Proofs.Ytmacjpgeamlmhaa.W
open Go Go.ChangeShapes Go.WideShapes Go.ChangeAt Go.RowKit
open Go.Proofs.Ytmacjpgeamlmhaa.S

/-- the two commands in memory, each with lists of its own -/
structure OfR (w3 wx : World) (g5 g6 : Nat) (C5 C6 : List Value) (va5 : Option Addr) (vc5 : Nat) (pa5 : Option Addr) (pc5 : Nat) (va6 : Option Addr) (vc6 : Nat) (pa6 : Option Addr) (pc6 : Nat) (vn pn : Nat) (V : List Cv) (PL : List Pc) : Prop where
  r5 : Row wx g5 25 C5
  r6 : Row wx g6 25 C6
  o5 : LsO cvE wx w3.heap.size (.slice va5 vn vc5) V
  p5 : LsO pcE wx w3.heap.size (.slice pa5 pn pc5) PL
  o6 : LsO cvE wx w3.heap.size (.slice va6 vn vc6) V
  p6 : LsO pcE wx w3.heap.size (.slice pa6 pn pc6) PL
  b5 : w3.heap.size ≤ g5
  b6 : w3.heap.size ≤ g6
  bel : Below w3.heap.size w3 wx
/-- a list that may be written to: in a row of the call's own -/
def WrL {α : Type} (E : El α) (w : World) (base : Nat) (a : Option Addr) (n : Nat) : Prop := n = 0 ∨ ∃ (g : Nat) (C : List Value), a = some ⟨g, 0, none⟩ ∧ base ≤ g ∧ Row w g E.eT C ∧ n * E.k ≤ C.length
theorem LsO.wr {α : Type} {E : El α} {w : World} {base : Nat} {a : Option Addr} {n c : Nat} {L : List α} (h : LsO E w base (.slice a n c) L) : WrL E w base a n := by
  obtain ⟨-, h2⟩ := h
  rcases h2 with ⟨hv, -⟩ | ⟨g, cap, cur, hv, hg, hh, h3, -, h4, -⟩
  · injection hv with e1 e2 e3
    exact .inl e2
  · injection hv with e1 e2 e3
    refine .inr ⟨g, cur.toList, e1, hg, ?_, ?_⟩
    · unfold Row; rw [hh]
    · have e4 : cur.size = cap * E.k := h4
      rw [Array.length_toList, e4, e2]
      exact Nat.mul_le_mul_right E.k h3
theorem WrL.below {α : Type} {E : El α} {w w' : World} {base : Nat} {a : Option Addr} {n : Nat} (h : WrL E w base a n) (hb : Below w.heap.size w w') : WrL E w' base a n := by
  rcases h with h | ⟨g, C, h1, h2, h3, h4⟩
  · exact .inl h
  · exact .inr ⟨g, C, h1, h2, h3.below hb h3.lt, h4⟩
theorem row_ne23 {w : World} {g g' : Nat} {t t' : TypeId} {C C' : List Value} (h : Row w g t C) (h' : Row w g' t' C') (ht : t ≠ t') : g ≠ g' := by
  rintro rfl
  unfold Row at h h'
  rw [h] at h'
  simp at h'
  exact ht h'.2
theorem WrL.other {α : Type} {E : El α} {w w' : World} {base g : Nat} {a : Option Addr} {n : Nat} {t : TypeId} {C : List Value} (h : WrL E w base a n) (hr : Row w g t C) (ht : E.eT ≠ t) (hu : Upd w w' g) : WrL E w' base a n := by
  rcases h with h | ⟨g', C', h1, h2, h3, h4⟩
  · exact .inl h
  · exact .inr ⟨g', C', h1, h2, h3.upd hu (row_ne23 h3 hr ht), h4⟩
set_option maxRecDepth 100000 in
set_option maxHeartbeats 32000000 in
theorem law_CommandOf (x : RqX) (w : World) (h : x.fit w) : Calls Try.prog 6 #[x.val] w fun e w' => e = .returned (.bool true) ∧ Below w.heap.size w w' := by
  obtain ⟨ln, cl, sq, kd, tl, id, ep, va, vn, vc, tg, sp, nm, nu, by1, ti, pa, pn, pc, da, dn, dc, tk, V, PL⟩ := x
  have hV := h.V
  have hP := h.P
  dsimp only at hV hP
  have HA := Lib.hid (fun w => awake23 w)
  have hmv := hV.hmax
  have hlv := hV.hle
  have hmp := hP.hmax
  have hlp := hP.hle
  by_cases hall : vn ≤ 20 ∧ pn ≤ 20
  rotate_left
  · by_cases f1 : vn ≤ 20
    · have g1 : ¬ (20 : Int) < (vn : Int) := by omega
      have g2 : (20 : Int) < (pn : Int) := by omega
      clear h hV hP hall
      go_enter Try.func6, Try.ntmps6
      go_wp2_with (first
        | ((with_reducible refine box_row (o := ⟨some 1, _, _, _, _, _⟩) rfl _ _ rfl (rqC ln cl sq kd tl id ep va vn vc tg sp nm nu by1 ti pa pn pc da dn dc tk) rfl ?_); intro w1 hr hb hz; have X1 := Lib.hid hr; have B1 := Lib.hid hb; have c7 := (Row.rq (x := ⟨ln, cl, sq, kd, tl, id, ep, va, vn, vc, tg, sp, nm, nu, by1, ti, pa, pn, pc, da, dn, dc, tk, V, PL⟩) hr).c7; have c14 := (Row.rq (x := ⟨ln, cl, sq, kd, tl, id, ep, va, vn, vc, tg, sp, nm, nu, by1, ti, pa, pn, pc, da, dn, dc, tk, V, PL⟩) hr).c14; dsimp only at c7 c14; clear hr hb hz)
        | (go_at_call 8; (with_reducible refine (HA.out w1).mono ?_); rintro z w3 ⟨rfl, hb⟩; have B3 := Lib.hid (B1.out.trans (hb.mono B1.out.size)); clear hb))
      go_ret
      exact ⟨rfl, B3.out⟩
    · have g1 : (20 : Int) < (vn : Int) := by omega
      clear h hV hP hall
      go_enter Try.func6, Try.ntmps6
      go_wp2_with (first
        | ((with_reducible refine box_row (o := ⟨some 1, _, _, _, _, _⟩) rfl _ _ rfl (rqC ln cl sq kd tl id ep va vn vc tg sp nm nu by1 ti pa pn pc da dn dc tk) rfl ?_); intro w1 hr hb hz; have X1 := Lib.hid hr; have B1 := Lib.hid hb; have c7 := (Row.rq (x := ⟨ln, cl, sq, kd, tl, id, ep, va, vn, vc, tg, sp, nm, nu, by1, ti, pa, pn, pc, da, dn, dc, tk, V, PL⟩) hr).c7; have c14 := (Row.rq (x := ⟨ln, cl, sq, kd, tl, id, ep, va, vn, vc, tg, sp, nm, nu, by1, ti, pa, pn, pc, da, dn, dc, tk, V, PL⟩) hr).c14; dsimp only at c7 c14; clear hr hb hz)
        | (go_at_call 8; (with_reducible refine (HA.out w1).mono ?_); rintro z w3 ⟨rfl, hb⟩; have B3 := Lib.hid (B1.out.trans (hb.mono B1.out.size)); clear hb))
      go_ret
      exact ⟨rfl, B3.out⟩
  obtain ⟨v20, p20⟩ := hall
  have g1 : ¬ (20 : Int) < (vn : Int) := by omega
  have g2 : ¬ (20 : Int) < (pn : Int) := by omega
  have HV := Lib.hid (fun w' (hb : Below w.heap.size w w') => cvclone va vn vc V w' (hV.mono hb) (by omega))
  have HP := Lib.hid (fun w' (hb : Below w.heap.size w w') => pcclone pa pn pc PL w' (hP.mono pcOk hb) (by omega))
  have HV2 := Lib.hid (fun w' base a c (ho : LsO cvE w' base (.slice a vn c) V) => (lso_out cvOk ho hV.hlen hV.hfit : Ls cvE w' a vn c V).cvs)
  have HP2 := Lib.hid (fun w' base a c (ho : LsO pcE w' base (.slice a pn c) PL) => (lso_out pcOk ho hP.hlen hP.hfit : Ls pcE w' a pn c PL))
  have HO1 := Lib.hid (fun w' (hb : Below w.heap.size w w') => cmof ⟨ln, cl, sq, kd, tl, id, ep, va, vn, vc, tg, sp, nm, nu, by1, ti, pa, pn, pc, da, dn, dc, tk, V, PL⟩ w' (h.mono hb) (by dsimp only; omega) (by dsimp only; omega))
  have HO2 := Lib.hid (fun w' (hb : Below w.heap.size w w') => zkof ⟨ln, cl, sq, kd, tl, id, ep, va, vn, vc, tg, sp, nm, nu, by1, ti, pa, pn, pc, da, dn, dc, tk, V, PL⟩ w' (h.mono hb) (by dsimp only; omega) (by dsimp only; omega))
  dsimp only at HO1 HO2
  have HSM := Lib.hid (fun w' va5 vc5 pa5 pc5 va6 vc6 pa6 pc6 (h1 : Cvs w' va5 vn vc5 V) (h2 : Ls pcE w' pa5 pn pc5 PL) (h3 : Cvs w' va6 vn vc6 V) (h4 : Ls pcE w' pa6 pn pc6 PL) => (by
    have q := zksame ⟨⟨cl, sq, kd, id, ep, V, sp, nm, nu, by1, ti, PL⟩, va5, vn, vc5, pa5, pn, pc5⟩ ⟨⟨cl, sq, kd, id, ep, V, sp, nm, nu, by1, ti, PL⟩, va6, vn, vc6, pa6, pn, pc6⟩ true w' ⟨h.cl, h.sq, h.kd, h.id, h.ep, h1, h.sp, h.nm, h.nu, h.by', h.ti, h2⟩ ⟨h.cl, h.sq, h.kd, h.id, h.ep, h3, h.sp, h.nm, h.nu, h.by', h.ti, h4⟩ (by simp)
    rw [show sameB ⟨cl, sq, kd, id, ep, V, sp, nm, nu, by1, ti, PL⟩ ⟨cl, sq, kd, id, ep, V, sp, nm, nu, by1, ti, PL⟩ true = true by unfold sameB; simp [same_refl]] at q
    exact q : Calls Try.prog 15 #[.agg (cmC cl sq kd id ep va5 vn vc5 sp nm nu by1 ti pa5 pn pc5).toArray, .agg (cmC cl sq kd id ep va6 vn vc6 sp nm nu by1 ti pa6 pn pc6).toArray] w' fun e w'' => e = .returned (.bool true) ∧ Below w'.heap.size w' w''))
  have HS1 := Lib.hid (fun w' a3 c3 (hb : Below w.heap.size w w') (h3 : Cvs w' a3 vn c3 V) => (by have q := usame_any va a3 vn vn vc c3 V V w' (hV.mono hb) h3; rw [same_refl] at q; exact q : Calls Try.prog 28 #[.slice va vn vc, .slice a3 vn c3] w' fun e w'' => e = .returned (.bool true) ∧ Below w'.heap.size w' w''))
  have HS2 := Lib.hid (fun w' a4 c4 (hb : Below w.heap.size w w') (h4 : Ls pcE w' a4 pn c4 PL) => usamepV pa a4 pn pc pn c4 PL PL true w' (hP.mono pcOk hb) h4 (by simp))
  have CZZ := Lib.hid cm_zero
  have CZ := Lib.hid cm_size
  have VF := Lib.hid hV.hfit
  have PF := Lib.hid hP.hfit
  have VL := Lib.hid hV.hlen
  have PLL := Lib.hid hP.hlen
  clear h hV hP
  go_enter Try.func6, Try.ntmps6
  go_wp2_with (first
    | ((with_reducible refine box_row (o := ⟨some 1, _, _, _, _, _⟩) rfl _ _ rfl (rqC ln cl sq kd tl id ep va vn vc tg sp nm nu by1 ti pa pn pc da dn dc tk) rfl ?_); intro w1 hr hb hz; have X1 := Lib.hid hr; have B1 := Lib.hid hb; have c7 := (Row.rq (x := ⟨ln, cl, sq, kd, tl, id, ep, va, vn, vc, tg, sp, nm, nu, by1, ti, pa, pn, pc, da, dn, dc, tk, V, PL⟩) hr).c7; have c14 := (Row.rq (x := ⟨ln, cl, sq, kd, tl, id, ep, va, vn, vc, tg, sp, nm, nu, by1, ti, pa, pn, pc, da, dn, dc, tk, V, PL⟩) hr).c14; dsimp only at c7 c14; clear hr hb hz))
  have X1R := Row.rq (x := ⟨ln, cl, sq, kd, tl, id, ep, va, vn, vc, tg, sp, nm, nu, by1, ti, pa, pn, pc, da, dn, dc, tk, V, PL⟩) X1.out
  have C7 := Lib.hid X1R.c7
  have C14 := Lib.hid X1R.c14
  dsimp only at C7 C14
  clear c7 c14 X1R
  refine region_h (fun v => Below w1.heap.size w1 v) (by kernel_rfl) (by kernel_rfl) (Below.refl _ _).drew ?_
  obtain ⟨e0, he0⟩ : ∃ wd, w1.drew = wd := ⟨_, rfl⟩
  have I0 : Hid (Below w1.heap.size w1 e0) := Lib.hid (by rw [← he0]; exact (Below.refl _ _).drew)
  rw [he0]
  clear he0
  (refine h_read 0 rfl (by kernel_rfl) (by kernel_rfl) (h_free rfl) ?_ ?_ ?_; rotate_left; (focus (intro v hv; go_simp; rfl)); go_simp)
  (refine h_read 1 rfl (by kernel_rfl) (by kernel_rfl) (h_free rfl) ?_ ?_ ?_; rotate_left; (focus (intro v hv; go_simp; rfl)); go_simp)
  (refine h_read 2 rfl (by kernel_rfl) (by kernel_rfl) (h_free rfl) ?_ ?_ ?_; rotate_left; (focus (intro v hv; have x7 := (hv.cell (p := ⟨w.heap.size, 7, none⟩) X1.out.lt).trans C7.out; have x14 := (hv.cell (p := ⟨w.heap.size, 14, none⟩) X1.out.lt).trans C14.out; go_simp; rfl)); go_simp)
  (refine h_read 4 rfl (by kernel_rfl) (by kernel_rfl) (h_free rfl) ?_ ?_ ?_; rotate_left; (focus (intro v hv; go_simp; rfl)); go_simp)
  (refine h_read 5 rfl (by kernel_rfl) (by kernel_rfl) (h_free rfl) ?_ ?_ ?_; rotate_left; (focus (intro v hv; have x7 := (hv.cell (p := ⟨w.heap.size, 7, none⟩) X1.out.lt).trans C7.out; have x14 := (hv.cell (p := ⟨w.heap.size, 14, none⟩) X1.out.lt).trans C14.out; go_simp; rfl)); go_simp)
  (refine h_call 3 rfl (by kernel_rfl) (h_free rfl) 24 ?_ ?_ ?_; rotate_left; (focus (go_simp; rfl)))
  refine (HV.out e0 (B1.out.trans (I0.out.mono B1.out.size))).mono ?_
  rintro z e1 ⟨a3, c3, rfl, ho, hb⟩
  have A1 := Lib.hid (HV2.out e1 _ a3 c3 ho)
  have I1 := Lib.hid (I0.out.trans (hb.mono I0.out.size))
  clear ho hb
  refine ⟨_, rfl, I1.out, ?_⟩
  go_simp
  (refine h_call 6 rfl (by kernel_rfl) (h_free rfl) 25 ?_ ?_ ?_; rotate_left; (focus (go_simp; rfl)))
  refine (HP.out e1 (B1.out.trans (I1.out.mono B1.out.size))).mono ?_
  rintro z w3 ⟨a4, c4, rfl, ho, hb⟩
  have A3 := Lib.hid (A1.out.mono hb)
  have D3 := Lib.hid (HP2.out w3 _ a4 c4 ho)
  have I3 := Lib.hid (I1.out.trans (hb.mono I1.out.size))
  clear ho hb
  refine ⟨_, rfl, I3.out, ?_⟩
  go_simp
  (refine h_read 7 rfl (by kernel_rfl) (by kernel_rfl) (h_free rfl) ?_ ?_ ?_; rotate_left; (focus (intro v hv; go_simp; rfl)); go_simp)
  (refine h_read 8 rfl (by kernel_rfl) (by kernel_rfl) (h_free rfl) ?_ ?_ ?_; rotate_left; (focus (intro v hv; go_simp; rfl)); go_simp)
  refine h_done (by kernel_rfl) ?_
  have X3 := Lib.hid (X1.out.below I3.out X1.out.lt)
  have B3 := Lib.hid (B1.out.trans (I3.out.mono B1.out.size))
  go_wp2_with fail
  go_cut [5, 6] from 29 to 32 (fun v5 v6 wx => ∃ (g5 g6 : Nat) (va5 : Option Addr) (vc5 : Nat) (pa5 : Option Addr) (pc5 : Nat) (va6 : Option Addr) (vc6 : Nat) (pa6 : Option Addr) (pc6 : Nat), v5 = .pointer (some ⟨g5, 0, none⟩) ∧ v6 = .pointer (some ⟨g6, 0, none⟩) ∧ Hid (OfR w3 wx g5 g6 (cmC cl sq kd id ep va5 vn vc5 sp nm nu by1 ti pa5 pn pc5) (cmC cl sq kd id ep va6 vn vc6 sp nm nu by1 ti pa6 pn pc6) va5 vc5 pa5 pc5 va6 vc6 pa6 pc6 vn pn V PL))
  case first =>
    refine region_t (fun v => Below w3.heap.size w3 v) 7 (by kernel_rfl) (by kernel_rfl) (by kernel_rfl) (Below.refl _ _).drew ?_
    obtain ⟨d0, hd0⟩ : ∃ wd, w3.drew = wd := ⟨_, rfl⟩
    have J_0 : Hid (Below w3.heap.size w3 d0) := Lib.hid (by rw [← hd0]; exact (Below.refl _ _).drew)
    rw [hd0]
    clear hd0
    (refine t_read 0 rfl (by kernel_rfl) (by kernel_rfl) (by kernel_rfl) (t_free rfl) ?_ ?_ ?_; rotate_left; (focus (intro v hv; refine run_cells 48 (.tmp 1) ?_ w.heap.size 0 ?_ (rqC ln cl sq kd tl id ep va vn vc tg sp nm nu by1 ti pa pn pc da dn dc tk) _ (fun j' u' hj => by rw [hv.cell (p := ⟨w.heap.size, 0 + j', none⟩) X3.out.lt, Nat.zero_add, X3.out.cellV]; exact hj) Try.underlying48 rfl rq_size; (focus rfl); go_simp)); go_simp)
    (refine t_read 2 rfl (by kernel_rfl) (by kernel_rfl) (by kernel_rfl) (t_free rfl) ?_ ?_ ?_; rotate_left; (focus (intro v hv; refine run_cells 48 (.tmp 1) ?_ w.heap.size 0 ?_ (rqC ln cl sq kd tl id ep va vn vc tg sp nm nu by1 ti pa pn pc da dn dc tk) _ (fun j' u' hj => by rw [hv.cell (p := ⟨w.heap.size, 0 + j', none⟩) X3.out.lt, Nat.zero_add, X3.out.cellV]; exact hj) Try.underlying48 rfl rq_size; (focus rfl); go_simp)); go_simp)
    refine t_pick [1, 4, 5] (by kernel_rfl) rfl ⟨?_, ?_, ?_, trivial⟩
    · (refine one_call rfl rfl (t_free rfl) 26 ?_ ?_ ?_; rotate_left; (focus (go_simp; rfl)))
      refine (HO1.out d0 (B3.out.trans (J_0.out.mono B3.out.size))).mono ?_
      rintro z d1 ⟨va5, vc5, pa5, pc5, rfl, ho, hp, hb⟩
      have O5_1 := Lib.hid (ho.base J_0.out.size)
      have P5_1 := Lib.hid (hp.base J_0.out.size)
      have J_1 := Lib.hid (J_0.out.trans (hb.mono J_0.out.size))
      clear ho hp hb
      refine ⟨_, rfl, J_1.out, ?_⟩
      go_simp
      refine t_pick [3, 4, 5] (by kernel_rfl) rfl ⟨?_, ?_, ?_, trivial⟩
      · (refine one_call rfl rfl (t_free rfl) 27 ?_ ?_ ?_; rotate_left; (focus (go_simp; rfl)))
        refine (HO2.out d1 (B3.out.trans (J_1.out.mono B3.out.size))).mono ?_
        rintro z d2 ⟨va6, vc6, pa6, pc6, rfl, ho, hp, hb⟩
        have O6_2 := Lib.hid (ho.base J_1.out.size)
        have P6_2 := Lib.hid (hp.base J_1.out.size)
        have J_2 := Lib.hid (J_1.out.trans (hb.mono J_1.out.size))
        have O5_2 := Lib.hid (O5_1.out.kept hb)
        have P5_2 := Lib.hid (P5_1.out.kept hb)
        clear ho hp hb
        refine ⟨_, rfl, J_2.out, ?_⟩
        go_simp
        refine t_pick [4, 5] (by kernel_rfl) rfl ⟨?_, ?_, trivial⟩
        · refine one_list rfl rfl ?_
          intro K hK
          refine alloc_row rfl _ rfl _ CZZ.out ?_
          intro d3 hr hb hz
          obtain ⟨g5, hg⟩ : ∃ g, d2.heap.size = g := ⟨_, rfl⟩
          rw [hg] at hr ⊢
          have E5_3 := Lib.hid hr
          have G5 := Lib.hid (show w3.heap.size ≤ g5 by rw [← hg]; exact J_2.out.size)
          have J_3 := Lib.hid (J_2.out.trans (hb.mono J_2.out.size))
          have O5_3 := Lib.hid (O5_2.out.kept hb)
          have P5_3 := Lib.hid (P5_2.out.kept hb)
          have O6_3 := Lib.hid (O6_2.out.kept hb)
          have P6_3 := Lib.hid (P6_2.out.kept hb)
          clear hr hb hz hg
          refine hK _ _ J_3.out ?_
          go_simp
          (refine t_list 5 rfl (by kernel_rfl) rfl ?_; intro K hK)
          refine alloc_row rfl _ rfl _ CZZ.out ?_
          intro d4 hr hb hz
          obtain ⟨g6, hg⟩ : ∃ g, d3.heap.size = g := ⟨_, rfl⟩
          rw [hg] at hr ⊢
          have E6_4 := Lib.hid hr
          have G6 := Lib.hid (show w3.heap.size ≤ g6 by rw [← hg]; exact J_3.out.size)
          have NE := Lib.hid (show g5 ≠ g6 by rw [← hg]; exact Nat.ne_of_lt E5_3.out.lt)
          have J_4 := Lib.hid (J_3.out.trans (hb.mono J_3.out.size))
          have O5_4 := Lib.hid (O5_3.out.kept hb)
          have P5_4 := Lib.hid (P5_3.out.kept hb)
          have O6_4 := Lib.hid (O6_3.out.kept hb)
          have P6_4 := Lib.hid (P6_3.out.kept hb)
          have E5_4 := Lib.hid (E5_3.out.below hb E5_3.out.lt)
          clear hr hb hz hg
          refine hK _ _ J_4.out ?_
          go_simp
          (refine t_list 6 rfl (by kernel_rfl) rfl ?_; intro K hK)
          refine store_row rfl _ _ _ rfl g5 (cmC cl sq kd id ep va5 vn vc5 sp nm nu by1 ti pa5 pn pc5) (by go_simp) (by first | (go_simp; done) | (go_simp; rfl)) 25 _ E5_4.out CZ.out rfl (cm_one _ _ _ _ _ _ _ _ _ _ _ _ _ _ _ _) ?_
          intro d5 hr hu
          have E5_5 := Lib.hid hr
          have J_5 := Lib.hid (J_4.out.trans (hu.below G5.out))
          have O5_5 := Lib.hid (O5_4.out.upd hu (lso_ne O5_4.out E5_4.out (by decide)))
          have P5_5 := Lib.hid (P5_4.out.upd hu (lso_ne P5_4.out E5_4.out (by decide)))
          have O6_5 := Lib.hid (O6_4.out.upd hu (lso_ne O6_4.out E5_4.out (by decide)))
          have P6_5 := Lib.hid (P6_4.out.upd hu (lso_ne P6_4.out E5_4.out (by decide)))
          have E6_5 := Lib.hid (E6_4.out.upd hu NE.out.symm)
          clear hr hu
          refine hK _ _ J_5.out ?_
          go_simp
          (refine t_last 7 rfl (by kernel_rfl) rfl (by kernel_rfl) (by kernel_rfl) ?_; intro K hK)
          refine store_row rfl _ _ _ rfl g6 (cmC cl sq kd id ep va6 vn vc6 sp nm nu by1 ti pa6 pn pc6) (by go_simp) (by first | (go_simp; done) | (go_simp; rfl)) 25 _ E6_5.out CZ.out rfl (cm_one _ _ _ _ _ _ _ _ _ _ _ _ _ _ _ _) ?_
          intro d6 hr hu
          have E6_6 := Lib.hid hr
          have J_6 := Lib.hid (J_5.out.trans (hu.below G6.out))
          have O5_6 := Lib.hid (O5_5.out.upd hu (lso_ne O5_5.out E6_5.out (by decide)))
          have P5_6 := Lib.hid (P5_5.out.upd hu (lso_ne P5_5.out E6_5.out (by decide)))
          have O6_6 := Lib.hid (O6_5.out.upd hu (lso_ne O6_5.out E6_5.out (by decide)))
          have P6_6 := Lib.hid (P6_5.out.upd hu (lso_ne P6_5.out E6_5.out (by decide)))
          have E5_6 := Lib.hid (E5_5.out.upd hu NE.out)
          clear hr hu
          refine hK _ _ ?_
          go_wp2_with fail
          go_meet
          case rel => exact ⟨g5, g6, va5, vc5, pa5, pc5, va6, vc6, pa6, pc6, rfl, rfl, Lib.hid ⟨E5_6.out, E6_6.out, O5_6.out, P5_6.out, O6_6.out, P6_6.out, G5.out, G6.out, J_6.out⟩⟩
        · refine one_list rfl rfl ?_
          intro K hK
          refine alloc_row rfl _ rfl _ CZZ.out ?_
          intro d3 hr hb hz
          obtain ⟨g6, hg⟩ : ∃ g, d2.heap.size = g := ⟨_, rfl⟩
          rw [hg] at hr ⊢
          have E6_3 := Lib.hid hr
          have G6 := Lib.hid (show w3.heap.size ≤ g6 by rw [← hg]; exact J_2.out.size)
          have J_3 := Lib.hid (J_2.out.trans (hb.mono J_2.out.size))
          have O5_3 := Lib.hid (O5_2.out.kept hb)
          have P5_3 := Lib.hid (P5_2.out.kept hb)
          have O6_3 := Lib.hid (O6_2.out.kept hb)
          have P6_3 := Lib.hid (P6_2.out.kept hb)
          clear hr hb hz hg
          refine hK _ _ J_3.out ?_
          go_simp
          (refine t_list 4 rfl (by kernel_rfl) rfl ?_; intro K hK)
          refine alloc_row rfl _ rfl _ CZZ.out ?_
          intro d4 hr hb hz
          obtain ⟨g5, hg⟩ : ∃ g, d3.heap.size = g := ⟨_, rfl⟩
          rw [hg] at hr ⊢
          have E5_4 := Lib.hid hr
          have G5 := Lib.hid (show w3.heap.size ≤ g5 by rw [← hg]; exact J_3.out.size)
          have NE := Lib.hid (show g5 ≠ g6 by rw [← hg]; exact Nat.ne_of_gt E6_3.out.lt)
          have J_4 := Lib.hid (J_3.out.trans (hb.mono J_3.out.size))
          have O5_4 := Lib.hid (O5_3.out.kept hb)
          have P5_4 := Lib.hid (P5_3.out.kept hb)
          have O6_4 := Lib.hid (O6_3.out.kept hb)
          have P6_4 := Lib.hid (P6_3.out.kept hb)
          have E6_4 := Lib.hid (E6_3.out.below hb E6_3.out.lt)
          clear hr hb hz hg
          refine hK _ _ J_4.out ?_
          go_simp
          (refine t_list 6 rfl (by kernel_rfl) rfl ?_; intro K hK)
          refine store_row rfl _ _ _ rfl g5 (cmC cl sq kd id ep va5 vn vc5 sp nm nu by1 ti pa5 pn pc5) (by go_simp) (by first | (go_simp; done) | (go_simp; rfl)) 25 _ E5_4.out CZ.out rfl (cm_one _ _ _ _ _ _ _ _ _ _ _ _ _ _ _ _) ?_
          intro d5 hr hu
          have E5_5 := Lib.hid hr
          have J_5 := Lib.hid (J_4.out.trans (hu.below G5.out))
          have O5_5 := Lib.hid (O5_4.out.upd hu (lso_ne O5_4.out E5_4.out (by decide)))
          have P5_5 := Lib.hid (P5_4.out.upd hu (lso_ne P5_4.out E5_4.out (by decide)))
          have O6_5 := Lib.hid (O6_4.out.upd hu (lso_ne O6_4.out E5_4.out (by decide)))
          have P6_5 := Lib.hid (P6_4.out.upd hu (lso_ne P6_4.out E5_4.out (by decide)))
          have E6_5 := Lib.hid (E6_4.out.upd hu NE.out.symm)
          clear hr hu
          refine hK _ _ J_5.out ?_
          go_simp
          (refine t_last 7 rfl (by kernel_rfl) rfl (by kernel_rfl) (by kernel_rfl) ?_; intro K hK)
          refine store_row rfl _ _ _ rfl g6 (cmC cl sq kd id ep va6 vn vc6 sp nm nu by1 ti pa6 pn pc6) (by go_simp) (by first | (go_simp; done) | (go_simp; rfl)) 25 _ E6_5.out CZ.out rfl (cm_one _ _ _ _ _ _ _ _ _ _ _ _ _ _ _ _) ?_
          intro d6 hr hu
          have E6_6 := Lib.hid hr
          have J_6 := Lib.hid (J_5.out.trans (hu.below G6.out))
          have O5_6 := Lib.hid (O5_5.out.upd hu (lso_ne O5_5.out E6_5.out (by decide)))
          have P5_6 := Lib.hid (P5_5.out.upd hu (lso_ne P5_5.out E6_5.out (by decide)))
          have O6_6 := Lib.hid (O6_5.out.upd hu (lso_ne O6_5.out E6_5.out (by decide)))
          have P6_6 := Lib.hid (P6_5.out.upd hu (lso_ne P6_5.out E6_5.out (by decide)))
          have E5_6 := Lib.hid (E5_5.out.upd hu NE.out)
          clear hr hu
          refine hK _ _ ?_
          go_wp2_with fail
          go_meet
          case rel => exact ⟨g5, g6, va5, vc5, pa5, pc5, va6, vc6, pa6, pc6, rfl, rfl, Lib.hid ⟨E5_6.out, E6_6.out, O5_6.out, P5_6.out, O6_6.out, P6_6.out, G5.out, G6.out, J_6.out⟩⟩
      · refine one_list rfl rfl ?_
        intro K hK
        refine alloc_row rfl _ rfl _ CZZ.out ?_
        intro d2 hr hb hz
        obtain ⟨g5, hg⟩ : ∃ g, d1.heap.size = g := ⟨_, rfl⟩
        rw [hg] at hr ⊢
        have E5_2 := Lib.hid hr
        have G5 := Lib.hid (show w3.heap.size ≤ g5 by rw [← hg]; exact J_1.out.size)
        have J_2 := Lib.hid (J_1.out.trans (hb.mono J_1.out.size))
        have O5_2 := Lib.hid (O5_1.out.kept hb)
        have P5_2 := Lib.hid (P5_1.out.kept hb)
        clear hr hb hz hg
        refine hK _ _ J_2.out ?_
        go_simp
        refine t_pick [3, 5] (by kernel_rfl) rfl ⟨?_, ?_, trivial⟩
        · (refine one_call rfl rfl (t_free rfl) 27 ?_ ?_ ?_; rotate_left; (focus (go_simp; rfl)))
          refine (HO2.out d2 (B3.out.trans (J_2.out.mono B3.out.size))).mono ?_
          rintro z d3 ⟨va6, vc6, pa6, pc6, rfl, ho, hp, hb⟩
          have O6_3 := Lib.hid (ho.base J_2.out.size)
          have P6_3 := Lib.hid (hp.base J_2.out.size)
          have J_3 := Lib.hid (J_2.out.trans (hb.mono J_2.out.size))
          have O5_3 := Lib.hid (O5_2.out.kept hb)
          have P5_3 := Lib.hid (P5_2.out.kept hb)
          have E5_3 := Lib.hid (E5_2.out.below hb E5_2.out.lt)
          clear ho hp hb
          refine ⟨_, rfl, J_3.out, ?_⟩
          go_simp
          (refine t_list 5 rfl (by kernel_rfl) rfl ?_; intro K hK)
          refine alloc_row rfl _ rfl _ CZZ.out ?_
          intro d4 hr hb hz
          obtain ⟨g6, hg⟩ : ∃ g, d3.heap.size = g := ⟨_, rfl⟩
          rw [hg] at hr ⊢
          have E6_4 := Lib.hid hr
          have G6 := Lib.hid (show w3.heap.size ≤ g6 by rw [← hg]; exact J_3.out.size)
          have NE := Lib.hid (show g5 ≠ g6 by rw [← hg]; exact Nat.ne_of_lt E5_3.out.lt)
          have J_4 := Lib.hid (J_3.out.trans (hb.mono J_3.out.size))
          have O5_4 := Lib.hid (O5_3.out.kept hb)
          have P5_4 := Lib.hid (P5_3.out.kept hb)
          have E5_4 := Lib.hid (E5_3.out.below hb E5_3.out.lt)
          have O6_4 := Lib.hid (O6_3.out.kept hb)
          have P6_4 := Lib.hid (P6_3.out.kept hb)
          clear hr hb hz hg
          refine hK _ _ J_4.out ?_
          go_simp
          (refine t_list 6 rfl (by kernel_rfl) rfl ?_; intro K hK)
          refine store_row rfl _ _ _ rfl g5 (cmC cl sq kd id ep va5 vn vc5 sp nm nu by1 ti pa5 pn pc5) (by go_simp) (by first | (go_simp; done) | (go_simp; rfl)) 25 _ E5_4.out CZ.out rfl (cm_one _ _ _ _ _ _ _ _ _ _ _ _ _ _ _ _) ?_
          intro d5 hr hu
          have E5_5 := Lib.hid hr
          have J_5 := Lib.hid (J_4.out.trans (hu.below G5.out))
          have O5_5 := Lib.hid (O5_4.out.upd hu (lso_ne O5_4.out E5_4.out (by decide)))
          have P5_5 := Lib.hid (P5_4.out.upd hu (lso_ne P5_4.out E5_4.out (by decide)))
          have O6_5 := Lib.hid (O6_4.out.upd hu (lso_ne O6_4.out E5_4.out (by decide)))
          have P6_5 := Lib.hid (P6_4.out.upd hu (lso_ne P6_4.out E5_4.out (by decide)))
          have E6_5 := Lib.hid (E6_4.out.upd hu NE.out.symm)
          clear hr hu
          refine hK _ _ J_5.out ?_
          go_simp
          (refine t_last 7 rfl (by kernel_rfl) rfl (by kernel_rfl) (by kernel_rfl) ?_; intro K hK)
          refine store_row rfl _ _ _ rfl g6 (cmC cl sq kd id ep va6 vn vc6 sp nm nu by1 ti pa6 pn pc6) (by go_simp) (by first | (go_simp; done) | (go_simp; rfl)) 25 _ E6_5.out CZ.out rfl (cm_one _ _ _ _ _ _ _ _ _ _ _ _ _ _ _ _) ?_
          intro d6 hr hu
          have E6_6 := Lib.hid hr
          have J_6 := Lib.hid (J_5.out.trans (hu.below G6.out))
          have O5_6 := Lib.hid (O5_5.out.upd hu (lso_ne O5_5.out E6_5.out (by decide)))
          have P5_6 := Lib.hid (P5_5.out.upd hu (lso_ne P5_5.out E6_5.out (by decide)))
          have E5_6 := Lib.hid (E5_5.out.upd hu NE.out)
          have O6_6 := Lib.hid (O6_5.out.upd hu (lso_ne O6_5.out E6_5.out (by decide)))
          have P6_6 := Lib.hid (P6_5.out.upd hu (lso_ne P6_5.out E6_5.out (by decide)))
          clear hr hu
          refine hK _ _ ?_
          go_wp2_with fail
          go_meet
          case rel => exact ⟨g5, g6, va5, vc5, pa5, pc5, va6, vc6, pa6, pc6, rfl, rfl, Lib.hid ⟨E5_6.out, E6_6.out, O5_6.out, P5_6.out, O6_6.out, P6_6.out, G5.out, G6.out, J_6.out⟩⟩
        · refine one_list rfl rfl ?_
          intro K hK
          refine alloc_row rfl _ rfl _ CZZ.out ?_
          intro d3 hr hb hz
          obtain ⟨g6, hg⟩ : ∃ g, d2.heap.size = g := ⟨_, rfl⟩
          rw [hg] at hr ⊢
          have E6_3 := Lib.hid hr
          have G6 := Lib.hid (show w3.heap.size ≤ g6 by rw [← hg]; exact J_2.out.size)
          have NE := Lib.hid (show g5 ≠ g6 by rw [← hg]; exact Nat.ne_of_lt E5_2.out.lt)
          have J_3 := Lib.hid (J_2.out.trans (hb.mono J_2.out.size))
          have O5_3 := Lib.hid (O5_2.out.kept hb)
          have P5_3 := Lib.hid (P5_2.out.kept hb)
          have E5_3 := Lib.hid (E5_2.out.below hb E5_2.out.lt)
          clear hr hb hz hg
          refine hK _ _ J_3.out ?_
          go_simp
          (refine t_call 3 rfl (by kernel_rfl) rfl (t_free rfl) 27 ?_ ?_ ?_; rotate_left; (focus (go_simp; rfl)))
          refine (HO2.out d3 (B3.out.trans (J_3.out.mono B3.out.size))).mono ?_
          rintro z d4 ⟨va6, vc6, pa6, pc6, rfl, ho, hp, hb⟩
          have O6_4 := Lib.hid (ho.base J_3.out.size)
          have P6_4 := Lib.hid (hp.base J_3.out.size)
          have J_4 := Lib.hid (J_3.out.trans (hb.mono J_3.out.size))
          have O5_4 := Lib.hid (O5_3.out.kept hb)
          have P5_4 := Lib.hid (P5_3.out.kept hb)
          have E5_4 := Lib.hid (E5_3.out.below hb E5_3.out.lt)
          have E6_4 := Lib.hid (E6_3.out.below hb E6_3.out.lt)
          clear ho hp hb
          refine ⟨_, rfl, J_4.out, ?_⟩
          go_simp
          (refine t_list 6 rfl (by kernel_rfl) rfl ?_; intro K hK)
          refine store_row rfl _ _ _ rfl g5 (cmC cl sq kd id ep va5 vn vc5 sp nm nu by1 ti pa5 pn pc5) (by go_simp) (by first | (go_simp; done) | (go_simp; rfl)) 25 _ E5_4.out CZ.out rfl (cm_one _ _ _ _ _ _ _ _ _ _ _ _ _ _ _ _) ?_
          intro d5 hr hu
          have E5_5 := Lib.hid hr
          have J_5 := Lib.hid (J_4.out.trans (hu.below G5.out))
          have O5_5 := Lib.hid (O5_4.out.upd hu (lso_ne O5_4.out E5_4.out (by decide)))
          have P5_5 := Lib.hid (P5_4.out.upd hu (lso_ne P5_4.out E5_4.out (by decide)))
          have E6_5 := Lib.hid (E6_4.out.upd hu NE.out.symm)
          have O6_5 := Lib.hid (O6_4.out.upd hu (lso_ne O6_4.out E5_4.out (by decide)))
          have P6_5 := Lib.hid (P6_4.out.upd hu (lso_ne P6_4.out E5_4.out (by decide)))
          clear hr hu
          refine hK _ _ J_5.out ?_
          go_simp
          (refine t_last 7 rfl (by kernel_rfl) rfl (by kernel_rfl) (by kernel_rfl) ?_; intro K hK)
          refine store_row rfl _ _ _ rfl g6 (cmC cl sq kd id ep va6 vn vc6 sp nm nu by1 ti pa6 pn pc6) (by go_simp) (by first | (go_simp; done) | (go_simp; rfl)) 25 _ E6_5.out CZ.out rfl (cm_one _ _ _ _ _ _ _ _ _ _ _ _ _ _ _ _) ?_
          intro d6 hr hu
          have E6_6 := Lib.hid hr
          have J_6 := Lib.hid (J_5.out.trans (hu.below G6.out))
          have O5_6 := Lib.hid (O5_5.out.upd hu (lso_ne O5_5.out E6_5.out (by decide)))
          have P5_6 := Lib.hid (P5_5.out.upd hu (lso_ne P5_5.out E6_5.out (by decide)))
          have E5_6 := Lib.hid (E5_5.out.upd hu NE.out)
          have O6_6 := Lib.hid (O6_5.out.upd hu (lso_ne O6_5.out E6_5.out (by decide)))
          have P6_6 := Lib.hid (P6_5.out.upd hu (lso_ne P6_5.out E6_5.out (by decide)))
          clear hr hu
          refine hK _ _ ?_
          go_wp2_with fail
          go_meet
          case rel => exact ⟨g5, g6, va5, vc5, pa5, pc5, va6, vc6, pa6, pc6, rfl, rfl, Lib.hid ⟨E5_6.out, E6_6.out, O5_6.out, P5_6.out, O6_6.out, P6_6.out, G5.out, G6.out, J_6.out⟩⟩
      · refine one_list rfl rfl ?_
        intro K hK
        refine alloc_row rfl _ rfl _ CZZ.out ?_
        intro d2 hr hb hz
        obtain ⟨g6, hg⟩ : ∃ g, d1.heap.size = g := ⟨_, rfl⟩
        rw [hg] at hr ⊢
        have E6_2 := Lib.hid hr
        have G6 := Lib.hid (show w3.heap.size ≤ g6 by rw [← hg]; exact J_1.out.size)
        have J_2 := Lib.hid (J_1.out.trans (hb.mono J_1.out.size))
        have O5_2 := Lib.hid (O5_1.out.kept hb)
        have P5_2 := Lib.hid (P5_1.out.kept hb)
        clear hr hb hz hg
        refine hK _ _ J_2.out ?_
        go_simp
        refine t_pick [3, 4] (by kernel_rfl) rfl ⟨?_, ?_, trivial⟩
        · (refine one_call rfl rfl (t_free rfl) 27 ?_ ?_ ?_; rotate_left; (focus (go_simp; rfl)))
          refine (HO2.out d2 (B3.out.trans (J_2.out.mono B3.out.size))).mono ?_
          rintro z d3 ⟨va6, vc6, pa6, pc6, rfl, ho, hp, hb⟩
          have O6_3 := Lib.hid (ho.base J_2.out.size)
          have P6_3 := Lib.hid (hp.base J_2.out.size)
          have J_3 := Lib.hid (J_2.out.trans (hb.mono J_2.out.size))
          have O5_3 := Lib.hid (O5_2.out.kept hb)
          have P5_3 := Lib.hid (P5_2.out.kept hb)
          have E6_3 := Lib.hid (E6_2.out.below hb E6_2.out.lt)
          clear ho hp hb
          refine ⟨_, rfl, J_3.out, ?_⟩
          go_simp
          (refine t_list 4 rfl (by kernel_rfl) rfl ?_; intro K hK)
          refine alloc_row rfl _ rfl _ CZZ.out ?_
          intro d4 hr hb hz
          obtain ⟨g5, hg⟩ : ∃ g, d3.heap.size = g := ⟨_, rfl⟩
          rw [hg] at hr ⊢
          have E5_4 := Lib.hid hr
          have G5 := Lib.hid (show w3.heap.size ≤ g5 by rw [← hg]; exact J_3.out.size)
          have NE := Lib.hid (show g5 ≠ g6 by rw [← hg]; exact Nat.ne_of_gt E6_3.out.lt)
          have J_4 := Lib.hid (J_3.out.trans (hb.mono J_3.out.size))
          have O5_4 := Lib.hid (O5_3.out.kept hb)
          have P5_4 := Lib.hid (P5_3.out.kept hb)
          have E6_4 := Lib.hid (E6_3.out.below hb E6_3.out.lt)
          have O6_4 := Lib.hid (O6_3.out.kept hb)
          have P6_4 := Lib.hid (P6_3.out.kept hb)
          clear hr hb hz hg
          refine hK _ _ J_4.out ?_
          go_simp
          (refine t_list 6 rfl (by kernel_rfl) rfl ?_; intro K hK)
          refine store_row rfl _ _ _ rfl g5 (cmC cl sq kd id ep va5 vn vc5 sp nm nu by1 ti pa5 pn pc5) (by go_simp) (by first | (go_simp; done) | (go_simp; rfl)) 25 _ E5_4.out CZ.out rfl (cm_one _ _ _ _ _ _ _ _ _ _ _ _ _ _ _ _) ?_
          intro d5 hr hu
          have E5_5 := Lib.hid hr
          have J_5 := Lib.hid (J_4.out.trans (hu.below G5.out))
          have O5_5 := Lib.hid (O5_4.out.upd hu (lso_ne O5_4.out E5_4.out (by decide)))
          have P5_5 := Lib.hid (P5_4.out.upd hu (lso_ne P5_4.out E5_4.out (by decide)))
          have E6_5 := Lib.hid (E6_4.out.upd hu NE.out.symm)
          have O6_5 := Lib.hid (O6_4.out.upd hu (lso_ne O6_4.out E5_4.out (by decide)))
          have P6_5 := Lib.hid (P6_4.out.upd hu (lso_ne P6_4.out E5_4.out (by decide)))
          clear hr hu
          refine hK _ _ J_5.out ?_
          go_simp
          (refine t_last 7 rfl (by kernel_rfl) rfl (by kernel_rfl) (by kernel_rfl) ?_; intro K hK)
          refine store_row rfl _ _ _ rfl g6 (cmC cl sq kd id ep va6 vn vc6 sp nm nu by1 ti pa6 pn pc6) (by go_simp) (by first | (go_simp; done) | (go_simp; rfl)) 25 _ E6_5.out CZ.out rfl (cm_one _ _ _ _ _ _ _ _ _ _ _ _ _ _ _ _) ?_
          intro d6 hr hu
          have E6_6 := Lib.hid hr
          have J_6 := Lib.hid (J_5.out.trans (hu.below G6.out))
          have O5_6 := Lib.hid (O5_5.out.upd hu (lso_ne O5_5.out E6_5.out (by decide)))
          have P5_6 := Lib.hid (P5_5.out.upd hu (lso_ne P5_5.out E6_5.out (by decide)))
          have O6_6 := Lib.hid (O6_5.out.upd hu (lso_ne O6_5.out E6_5.out (by decide)))
          have P6_6 := Lib.hid (P6_5.out.upd hu (lso_ne P6_5.out E6_5.out (by decide)))
          have E5_6 := Lib.hid (E5_5.out.upd hu NE.out)
          clear hr hu
          refine hK _ _ ?_
          go_wp2_with fail
          go_meet
          case rel => exact ⟨g5, g6, va5, vc5, pa5, pc5, va6, vc6, pa6, pc6, rfl, rfl, Lib.hid ⟨E5_6.out, E6_6.out, O5_6.out, P5_6.out, O6_6.out, P6_6.out, G5.out, G6.out, J_6.out⟩⟩
        · refine one_list rfl rfl ?_
          intro K hK
          refine alloc_row rfl _ rfl _ CZZ.out ?_
          intro d3 hr hb hz
          obtain ⟨g5, hg⟩ : ∃ g, d2.heap.size = g := ⟨_, rfl⟩
          rw [hg] at hr ⊢
          have E5_3 := Lib.hid hr
          have G5 := Lib.hid (show w3.heap.size ≤ g5 by rw [← hg]; exact J_2.out.size)
          have NE := Lib.hid (show g5 ≠ g6 by rw [← hg]; exact Nat.ne_of_gt E6_2.out.lt)
          have J_3 := Lib.hid (J_2.out.trans (hb.mono J_2.out.size))
          have O5_3 := Lib.hid (O5_2.out.kept hb)
          have P5_3 := Lib.hid (P5_2.out.kept hb)
          have E6_3 := Lib.hid (E6_2.out.below hb E6_2.out.lt)
          clear hr hb hz hg
          refine hK _ _ J_3.out ?_
          go_simp
          (refine t_call 3 rfl (by kernel_rfl) rfl (t_free rfl) 27 ?_ ?_ ?_; rotate_left; (focus (go_simp; rfl)))
          refine (HO2.out d3 (B3.out.trans (J_3.out.mono B3.out.size))).mono ?_
          rintro z d4 ⟨va6, vc6, pa6, pc6, rfl, ho, hp, hb⟩
          have O6_4 := Lib.hid (ho.base J_3.out.size)
          have P6_4 := Lib.hid (hp.base J_3.out.size)
          have J_4 := Lib.hid (J_3.out.trans (hb.mono J_3.out.size))
          have O5_4 := Lib.hid (O5_3.out.kept hb)
          have P5_4 := Lib.hid (P5_3.out.kept hb)
          have E6_4 := Lib.hid (E6_3.out.below hb E6_3.out.lt)
          have E5_4 := Lib.hid (E5_3.out.below hb E5_3.out.lt)
          clear ho hp hb
          refine ⟨_, rfl, J_4.out, ?_⟩
          go_simp
          (refine t_list 6 rfl (by kernel_rfl) rfl ?_; intro K hK)
          refine store_row rfl _ _ _ rfl g5 (cmC cl sq kd id ep va5 vn vc5 sp nm nu by1 ti pa5 pn pc5) (by go_simp) (by first | (go_simp; done) | (go_simp; rfl)) 25 _ E5_4.out CZ.out rfl (cm_one _ _ _ _ _ _ _ _ _ _ _ _ _ _ _ _) ?_
          intro d5 hr hu
          have E5_5 := Lib.hid hr
          have J_5 := Lib.hid (J_4.out.trans (hu.below G5.out))
          have O5_5 := Lib.hid (O5_4.out.upd hu (lso_ne O5_4.out E5_4.out (by decide)))
          have P5_5 := Lib.hid (P5_4.out.upd hu (lso_ne P5_4.out E5_4.out (by decide)))
          have E6_5 := Lib.hid (E6_4.out.upd hu NE.out.symm)
          have O6_5 := Lib.hid (O6_4.out.upd hu (lso_ne O6_4.out E5_4.out (by decide)))
          have P6_5 := Lib.hid (P6_4.out.upd hu (lso_ne P6_4.out E5_4.out (by decide)))
          clear hr hu
          refine hK _ _ J_5.out ?_
          go_simp
          (refine t_last 7 rfl (by kernel_rfl) rfl (by kernel_rfl) (by kernel_rfl) ?_; intro K hK)
          refine store_row rfl _ _ _ rfl g6 (cmC cl sq kd id ep va6 vn vc6 sp nm nu by1 ti pa6 pn pc6) (by go_simp) (by first | (go_simp; done) | (go_simp; rfl)) 25 _ E6_5.out CZ.out rfl (cm_one _ _ _ _ _ _ _ _ _ _ _ _ _ _ _ _) ?_
          intro d6 hr hu
          have E6_6 := Lib.hid hr
          have J_6 := Lib.hid (J_5.out.trans (hu.below G6.out))
          have O5_6 := Lib.hid (O5_5.out.upd hu (lso_ne O5_5.out E6_5.out (by decide)))
          have P5_6 := Lib.hid (P5_5.out.upd hu (lso_ne P5_5.out E6_5.out (by decide)))
          have E5_6 := Lib.hid (E5_5.out.upd hu NE.out)
          have O6_6 := Lib.hid (O6_5.out.upd hu (lso_ne O6_5.out E6_5.out (by decide)))
          have P6_6 := Lib.hid (P6_5.out.upd hu (lso_ne P6_5.out E6_5.out (by decide)))
          clear hr hu
          refine hK _ _ ?_
          go_wp2_with fail
          go_meet
          case rel => exact ⟨g5, g6, va5, vc5, pa5, pc5, va6, vc6, pa6, pc6, rfl, rfl, Lib.hid ⟨E5_6.out, E6_6.out, O5_6.out, P5_6.out, O6_6.out, P6_6.out, G5.out, G6.out, J_6.out⟩⟩
    · refine one_list rfl rfl ?_
      intro K hK
      refine alloc_row rfl _ rfl _ CZZ.out ?_
      intro d1 hr hb hz
      obtain ⟨g5, hg⟩ : ∃ g, d0.heap.size = g := ⟨_, rfl⟩
      rw [hg] at hr ⊢
      have E5_1 := Lib.hid hr
      have G5 := Lib.hid (show w3.heap.size ≤ g5 by rw [← hg]; exact J_0.out.size)
      have J_1 := Lib.hid (J_0.out.trans (hb.mono J_0.out.size))
      clear hr hb hz hg
      refine hK _ _ J_1.out ?_
      go_simp
      refine t_pick [1, 5] (by kernel_rfl) rfl ⟨?_, ?_, trivial⟩
      · (refine one_call rfl rfl (t_free rfl) 26 ?_ ?_ ?_; rotate_left; (focus (go_simp; rfl)))
        refine (HO1.out d1 (B3.out.trans (J_1.out.mono B3.out.size))).mono ?_
        rintro z d2 ⟨va5, vc5, pa5, pc5, rfl, ho, hp, hb⟩
        have O5_2 := Lib.hid (ho.base J_1.out.size)
        have P5_2 := Lib.hid (hp.base J_1.out.size)
        have J_2 := Lib.hid (J_1.out.trans (hb.mono J_1.out.size))
        have E5_2 := Lib.hid (E5_1.out.below hb E5_1.out.lt)
        clear ho hp hb
        refine ⟨_, rfl, J_2.out, ?_⟩
        go_simp
        refine t_pick [3, 5] (by kernel_rfl) rfl ⟨?_, ?_, trivial⟩
        · (refine one_call rfl rfl (t_free rfl) 27 ?_ ?_ ?_; rotate_left; (focus (go_simp; rfl)))
          refine (HO2.out d2 (B3.out.trans (J_2.out.mono B3.out.size))).mono ?_
          rintro z d3 ⟨va6, vc6, pa6, pc6, rfl, ho, hp, hb⟩
          have O6_3 := Lib.hid (ho.base J_2.out.size)
          have P6_3 := Lib.hid (hp.base J_2.out.size)
          have J_3 := Lib.hid (J_2.out.trans (hb.mono J_2.out.size))
          have E5_3 := Lib.hid (E5_2.out.below hb E5_2.out.lt)
          have O5_3 := Lib.hid (O5_2.out.kept hb)
          have P5_3 := Lib.hid (P5_2.out.kept hb)
          clear ho hp hb
          refine ⟨_, rfl, J_3.out, ?_⟩
          go_simp
          (refine t_list 5 rfl (by kernel_rfl) rfl ?_; intro K hK)
          refine alloc_row rfl _ rfl _ CZZ.out ?_
          intro d4 hr hb hz
          obtain ⟨g6, hg⟩ : ∃ g, d3.heap.size = g := ⟨_, rfl⟩
          rw [hg] at hr ⊢
          have E6_4 := Lib.hid hr
          have G6 := Lib.hid (show w3.heap.size ≤ g6 by rw [← hg]; exact J_3.out.size)
          have NE := Lib.hid (show g5 ≠ g6 by rw [← hg]; exact Nat.ne_of_lt E5_3.out.lt)
          have J_4 := Lib.hid (J_3.out.trans (hb.mono J_3.out.size))
          have E5_4 := Lib.hid (E5_3.out.below hb E5_3.out.lt)
          have O5_4 := Lib.hid (O5_3.out.kept hb)
          have P5_4 := Lib.hid (P5_3.out.kept hb)
          have O6_4 := Lib.hid (O6_3.out.kept hb)
          have P6_4 := Lib.hid (P6_3.out.kept hb)
          clear hr hb hz hg
          refine hK _ _ J_4.out ?_
          go_simp
          (refine t_list 6 rfl (by kernel_rfl) rfl ?_; intro K hK)
          refine store_row rfl _ _ _ rfl g5 (cmC cl sq kd id ep va5 vn vc5 sp nm nu by1 ti pa5 pn pc5) (by go_simp) (by first | (go_simp; done) | (go_simp; rfl)) 25 _ E5_4.out CZ.out rfl (cm_one _ _ _ _ _ _ _ _ _ _ _ _ _ _ _ _) ?_
          intro d5 hr hu
          have E5_5 := Lib.hid hr
          have J_5 := Lib.hid (J_4.out.trans (hu.below G5.out))
          have O5_5 := Lib.hid (O5_4.out.upd hu (lso_ne O5_4.out E5_4.out (by decide)))
          have P5_5 := Lib.hid (P5_4.out.upd hu (lso_ne P5_4.out E5_4.out (by decide)))
          have O6_5 := Lib.hid (O6_4.out.upd hu (lso_ne O6_4.out E5_4.out (by decide)))
          have P6_5 := Lib.hid (P6_4.out.upd hu (lso_ne P6_4.out E5_4.out (by decide)))
          have E6_5 := Lib.hid (E6_4.out.upd hu NE.out.symm)
          clear hr hu
          refine hK _ _ J_5.out ?_
          go_simp
          (refine t_last 7 rfl (by kernel_rfl) rfl (by kernel_rfl) (by kernel_rfl) ?_; intro K hK)
          refine store_row rfl _ _ _ rfl g6 (cmC cl sq kd id ep va6 vn vc6 sp nm nu by1 ti pa6 pn pc6) (by go_simp) (by first | (go_simp; done) | (go_simp; rfl)) 25 _ E6_5.out CZ.out rfl (cm_one _ _ _ _ _ _ _ _ _ _ _ _ _ _ _ _) ?_
          intro d6 hr hu
          have E6_6 := Lib.hid hr
          have J_6 := Lib.hid (J_5.out.trans (hu.below G6.out))
          have E5_6 := Lib.hid (E5_5.out.upd hu NE.out)
          have O5_6 := Lib.hid (O5_5.out.upd hu (lso_ne O5_5.out E6_5.out (by decide)))
          have P5_6 := Lib.hid (P5_5.out.upd hu (lso_ne P5_5.out E6_5.out (by decide)))
          have O6_6 := Lib.hid (O6_5.out.upd hu (lso_ne O6_5.out E6_5.out (by decide)))
          have P6_6 := Lib.hid (P6_5.out.upd hu (lso_ne P6_5.out E6_5.out (by decide)))
          clear hr hu
          refine hK _ _ ?_
          go_wp2_with fail
          go_meet
          case rel => exact ⟨g5, g6, va5, vc5, pa5, pc5, va6, vc6, pa6, pc6, rfl, rfl, Lib.hid ⟨E5_6.out, E6_6.out, O5_6.out, P5_6.out, O6_6.out, P6_6.out, G5.out, G6.out, J_6.out⟩⟩
        · refine one_list rfl rfl ?_
          intro K hK
          refine alloc_row rfl _ rfl _ CZZ.out ?_
          intro d3 hr hb hz
          obtain ⟨g6, hg⟩ : ∃ g, d2.heap.size = g := ⟨_, rfl⟩
          rw [hg] at hr ⊢
          have E6_3 := Lib.hid hr
          have G6 := Lib.hid (show w3.heap.size ≤ g6 by rw [← hg]; exact J_2.out.size)
          have NE := Lib.hid (show g5 ≠ g6 by rw [← hg]; exact Nat.ne_of_lt E5_2.out.lt)
          have J_3 := Lib.hid (J_2.out.trans (hb.mono J_2.out.size))
          have E5_3 := Lib.hid (E5_2.out.below hb E5_2.out.lt)
          have O5_3 := Lib.hid (O5_2.out.kept hb)
          have P5_3 := Lib.hid (P5_2.out.kept hb)
          clear hr hb hz hg
          refine hK _ _ J_3.out ?_
          go_simp
          (refine t_call 3 rfl (by kernel_rfl) rfl (t_free rfl) 27 ?_ ?_ ?_; rotate_left; (focus (go_simp; rfl)))
          refine (HO2.out d3 (B3.out.trans (J_3.out.mono B3.out.size))).mono ?_
          rintro z d4 ⟨va6, vc6, pa6, pc6, rfl, ho, hp, hb⟩
          have O6_4 := Lib.hid (ho.base J_3.out.size)
          have P6_4 := Lib.hid (hp.base J_3.out.size)
          have J_4 := Lib.hid (J_3.out.trans (hb.mono J_3.out.size))
          have E5_4 := Lib.hid (E5_3.out.below hb E5_3.out.lt)
          have O5_4 := Lib.hid (O5_3.out.kept hb)
          have P5_4 := Lib.hid (P5_3.out.kept hb)
          have E6_4 := Lib.hid (E6_3.out.below hb E6_3.out.lt)
          clear ho hp hb
          refine ⟨_, rfl, J_4.out, ?_⟩
          go_simp
          (refine t_list 6 rfl (by kernel_rfl) rfl ?_; intro K hK)
          refine store_row rfl _ _ _ rfl g5 (cmC cl sq kd id ep va5 vn vc5 sp nm nu by1 ti pa5 pn pc5) (by go_simp) (by first | (go_simp; done) | (go_simp; rfl)) 25 _ E5_4.out CZ.out rfl (cm_one _ _ _ _ _ _ _ _ _ _ _ _ _ _ _ _) ?_
          intro d5 hr hu
          have E5_5 := Lib.hid hr
          have J_5 := Lib.hid (J_4.out.trans (hu.below G5.out))
          have O5_5 := Lib.hid (O5_4.out.upd hu (lso_ne O5_4.out E5_4.out (by decide)))
          have P5_5 := Lib.hid (P5_4.out.upd hu (lso_ne P5_4.out E5_4.out (by decide)))
          have E6_5 := Lib.hid (E6_4.out.upd hu NE.out.symm)
          have O6_5 := Lib.hid (O6_4.out.upd hu (lso_ne O6_4.out E5_4.out (by decide)))
          have P6_5 := Lib.hid (P6_4.out.upd hu (lso_ne P6_4.out E5_4.out (by decide)))
          clear hr hu
          refine hK _ _ J_5.out ?_
          go_simp
          (refine t_last 7 rfl (by kernel_rfl) rfl (by kernel_rfl) (by kernel_rfl) ?_; intro K hK)
          refine store_row rfl _ _ _ rfl g6 (cmC cl sq kd id ep va6 vn vc6 sp nm nu by1 ti pa6 pn pc6) (by go_simp) (by first | (go_simp; done) | (go_simp; rfl)) 25 _ E6_5.out CZ.out rfl (cm_one _ _ _ _ _ _ _ _ _ _ _ _ _ _ _ _) ?_
          intro d6 hr hu
          have E6_6 := Lib.hid hr
          have J_6 := Lib.hid (J_5.out.trans (hu.below G6.out))
          have E5_6 := Lib.hid (E5_5.out.upd hu NE.out)
          have O5_6 := Lib.hid (O5_5.out.upd hu (lso_ne O5_5.out E6_5.out (by decide)))
          have P5_6 := Lib.hid (P5_5.out.upd hu (lso_ne P5_5.out E6_5.out (by decide)))
          have O6_6 := Lib.hid (O6_5.out.upd hu (lso_ne O6_5.out E6_5.out (by decide)))
          have P6_6 := Lib.hid (P6_5.out.upd hu (lso_ne P6_5.out E6_5.out (by decide)))
          clear hr hu
          refine hK _ _ ?_
          go_wp2_with fail
          go_meet
          case rel => exact ⟨g5, g6, va5, vc5, pa5, pc5, va6, vc6, pa6, pc6, rfl, rfl, Lib.hid ⟨E5_6.out, E6_6.out, O5_6.out, P5_6.out, O6_6.out, P6_6.out, G5.out, G6.out, J_6.out⟩⟩
      · refine one_list rfl rfl ?_
        intro K hK
        refine alloc_row rfl _ rfl _ CZZ.out ?_
        intro d2 hr hb hz
        obtain ⟨g6, hg⟩ : ∃ g, d1.heap.size = g := ⟨_, rfl⟩
        rw [hg] at hr ⊢
        have E6_2 := Lib.hid hr
        have G6 := Lib.hid (show w3.heap.size ≤ g6 by rw [← hg]; exact J_1.out.size)
        have NE := Lib.hid (show g5 ≠ g6 by rw [← hg]; exact Nat.ne_of_lt E5_1.out.lt)
        have J_2 := Lib.hid (J_1.out.trans (hb.mono J_1.out.size))
        have E5_2 := Lib.hid (E5_1.out.below hb E5_1.out.lt)
        clear hr hb hz hg
        refine hK _ _ J_2.out ?_
        go_simp
        (refine t_call 1 rfl (by kernel_rfl) rfl (t_free rfl) 26 ?_ ?_ ?_; rotate_left; (focus (go_simp; rfl)))
        refine (HO1.out d2 (B3.out.trans (J_2.out.mono B3.out.size))).mono ?_
        rintro z d3 ⟨va5, vc5, pa5, pc5, rfl, ho, hp, hb⟩
        have O5_3 := Lib.hid (ho.base J_2.out.size)
        have P5_3 := Lib.hid (hp.base J_2.out.size)
        have J_3 := Lib.hid (J_2.out.trans (hb.mono J_2.out.size))
        have E5_3 := Lib.hid (E5_2.out.below hb E5_2.out.lt)
        have E6_3 := Lib.hid (E6_2.out.below hb E6_2.out.lt)
        clear ho hp hb
        refine ⟨_, rfl, J_3.out, ?_⟩
        go_simp
        (refine t_call 3 rfl (by kernel_rfl) rfl (t_free rfl) 27 ?_ ?_ ?_; rotate_left; (focus (go_simp; rfl)))
        refine (HO2.out d3 (B3.out.trans (J_3.out.mono B3.out.size))).mono ?_
        rintro z d4 ⟨va6, vc6, pa6, pc6, rfl, ho, hp, hb⟩
        have O6_4 := Lib.hid (ho.base J_3.out.size)
        have P6_4 := Lib.hid (hp.base J_3.out.size)
        have J_4 := Lib.hid (J_3.out.trans (hb.mono J_3.out.size))
        have E5_4 := Lib.hid (E5_3.out.below hb E5_3.out.lt)
        have E6_4 := Lib.hid (E6_3.out.below hb E6_3.out.lt)
        have O5_4 := Lib.hid (O5_3.out.kept hb)
        have P5_4 := Lib.hid (P5_3.out.kept hb)
        clear ho hp hb
        refine ⟨_, rfl, J_4.out, ?_⟩
        go_simp
        (refine t_list 6 rfl (by kernel_rfl) rfl ?_; intro K hK)
        refine store_row rfl _ _ _ rfl g5 (cmC cl sq kd id ep va5 vn vc5 sp nm nu by1 ti pa5 pn pc5) (by go_simp) (by first | (go_simp; done) | (go_simp; rfl)) 25 _ E5_4.out CZ.out rfl (cm_one _ _ _ _ _ _ _ _ _ _ _ _ _ _ _ _) ?_
        intro d5 hr hu
        have E5_5 := Lib.hid hr
        have J_5 := Lib.hid (J_4.out.trans (hu.below G5.out))
        have E6_5 := Lib.hid (E6_4.out.upd hu NE.out.symm)
        have O5_5 := Lib.hid (O5_4.out.upd hu (lso_ne O5_4.out E5_4.out (by decide)))
        have P5_5 := Lib.hid (P5_4.out.upd hu (lso_ne P5_4.out E5_4.out (by decide)))
        have O6_5 := Lib.hid (O6_4.out.upd hu (lso_ne O6_4.out E5_4.out (by decide)))
        have P6_5 := Lib.hid (P6_4.out.upd hu (lso_ne P6_4.out E5_4.out (by decide)))
        clear hr hu
        refine hK _ _ J_5.out ?_
        go_simp
        (refine t_last 7 rfl (by kernel_rfl) rfl (by kernel_rfl) (by kernel_rfl) ?_; intro K hK)
        refine store_row rfl _ _ _ rfl g6 (cmC cl sq kd id ep va6 vn vc6 sp nm nu by1 ti pa6 pn pc6) (by go_simp) (by first | (go_simp; done) | (go_simp; rfl)) 25 _ E6_5.out CZ.out rfl (cm_one _ _ _ _ _ _ _ _ _ _ _ _ _ _ _ _) ?_
        intro d6 hr hu
        have E6_6 := Lib.hid hr
        have J_6 := Lib.hid (J_5.out.trans (hu.below G6.out))
        have E5_6 := Lib.hid (E5_5.out.upd hu NE.out)
        have O5_6 := Lib.hid (O5_5.out.upd hu (lso_ne O5_5.out E6_5.out (by decide)))
        have P5_6 := Lib.hid (P5_5.out.upd hu (lso_ne P5_5.out E6_5.out (by decide)))
        have O6_6 := Lib.hid (O6_5.out.upd hu (lso_ne O6_5.out E6_5.out (by decide)))
        have P6_6 := Lib.hid (P6_5.out.upd hu (lso_ne P6_5.out E6_5.out (by decide)))
        clear hr hu
        refine hK _ _ ?_
        go_wp2_with fail
        go_meet
        case rel => exact ⟨g5, g6, va5, vc5, pa5, pc5, va6, vc6, pa6, pc6, rfl, rfl, Lib.hid ⟨E5_6.out, E6_6.out, O5_6.out, P5_6.out, O6_6.out, P6_6.out, G5.out, G6.out, J_6.out⟩⟩
    · refine one_list rfl rfl ?_
      intro K hK
      refine alloc_row rfl _ rfl _ CZZ.out ?_
      intro d1 hr hb hz
      obtain ⟨g6, hg⟩ : ∃ g, d0.heap.size = g := ⟨_, rfl⟩
      rw [hg] at hr ⊢
      have E6_1 := Lib.hid hr
      have G6 := Lib.hid (show w3.heap.size ≤ g6 by rw [← hg]; exact J_0.out.size)
      have J_1 := Lib.hid (J_0.out.trans (hb.mono J_0.out.size))
      clear hr hb hz hg
      refine hK _ _ J_1.out ?_
      go_simp
      refine t_pick [1, 4] (by kernel_rfl) rfl ⟨?_, ?_, trivial⟩
      · (refine one_call rfl rfl (t_free rfl) 26 ?_ ?_ ?_; rotate_left; (focus (go_simp; rfl)))
        refine (HO1.out d1 (B3.out.trans (J_1.out.mono B3.out.size))).mono ?_
        rintro z d2 ⟨va5, vc5, pa5, pc5, rfl, ho, hp, hb⟩
        have O5_2 := Lib.hid (ho.base J_1.out.size)
        have P5_2 := Lib.hid (hp.base J_1.out.size)
        have J_2 := Lib.hid (J_1.out.trans (hb.mono J_1.out.size))
        have E6_2 := Lib.hid (E6_1.out.below hb E6_1.out.lt)
        clear ho hp hb
        refine ⟨_, rfl, J_2.out, ?_⟩
        go_simp
        refine t_pick [3, 4] (by kernel_rfl) rfl ⟨?_, ?_, trivial⟩
        · (refine one_call rfl rfl (t_free rfl) 27 ?_ ?_ ?_; rotate_left; (focus (go_simp; rfl)))
          refine (HO2.out d2 (B3.out.trans (J_2.out.mono B3.out.size))).mono ?_
          rintro z d3 ⟨va6, vc6, pa6, pc6, rfl, ho, hp, hb⟩
          have O6_3 := Lib.hid (ho.base J_2.out.size)
          have P6_3 := Lib.hid (hp.base J_2.out.size)
          have J_3 := Lib.hid (J_2.out.trans (hb.mono J_2.out.size))
          have E6_3 := Lib.hid (E6_2.out.below hb E6_2.out.lt)
          have O5_3 := Lib.hid (O5_2.out.kept hb)
          have P5_3 := Lib.hid (P5_2.out.kept hb)
          clear ho hp hb
          refine ⟨_, rfl, J_3.out, ?_⟩
          go_simp
          (refine t_list 4 rfl (by kernel_rfl) rfl ?_; intro K hK)
          refine alloc_row rfl _ rfl _ CZZ.out ?_
          intro d4 hr hb hz
          obtain ⟨g5, hg⟩ : ∃ g, d3.heap.size = g := ⟨_, rfl⟩
          rw [hg] at hr ⊢
          have E5_4 := Lib.hid hr
          have G5 := Lib.hid (show w3.heap.size ≤ g5 by rw [← hg]; exact J_3.out.size)
          have NE := Lib.hid (show g5 ≠ g6 by rw [← hg]; exact Nat.ne_of_gt E6_3.out.lt)
          have J_4 := Lib.hid (J_3.out.trans (hb.mono J_3.out.size))
          have E6_4 := Lib.hid (E6_3.out.below hb E6_3.out.lt)
          have O5_4 := Lib.hid (O5_3.out.kept hb)
          have P5_4 := Lib.hid (P5_3.out.kept hb)
          have O6_4 := Lib.hid (O6_3.out.kept hb)
          have P6_4 := Lib.hid (P6_3.out.kept hb)
          clear hr hb hz hg
          refine hK _ _ J_4.out ?_
          go_simp
          (refine t_list 6 rfl (by kernel_rfl) rfl ?_; intro K hK)
          refine store_row rfl _ _ _ rfl g5 (cmC cl sq kd id ep va5 vn vc5 sp nm nu by1 ti pa5 pn pc5) (by go_simp) (by first | (go_simp; done) | (go_simp; rfl)) 25 _ E5_4.out CZ.out rfl (cm_one _ _ _ _ _ _ _ _ _ _ _ _ _ _ _ _) ?_
          intro d5 hr hu
          have E5_5 := Lib.hid hr
          have J_5 := Lib.hid (J_4.out.trans (hu.below G5.out))
          have E6_5 := Lib.hid (E6_4.out.upd hu NE.out.symm)
          have O5_5 := Lib.hid (O5_4.out.upd hu (lso_ne O5_4.out E5_4.out (by decide)))
          have P5_5 := Lib.hid (P5_4.out.upd hu (lso_ne P5_4.out E5_4.out (by decide)))
          have O6_5 := Lib.hid (O6_4.out.upd hu (lso_ne O6_4.out E5_4.out (by decide)))
          have P6_5 := Lib.hid (P6_4.out.upd hu (lso_ne P6_4.out E5_4.out (by decide)))
          clear hr hu
          refine hK _ _ J_5.out ?_
          go_simp
          (refine t_last 7 rfl (by kernel_rfl) rfl (by kernel_rfl) (by kernel_rfl) ?_; intro K hK)
          refine store_row rfl _ _ _ rfl g6 (cmC cl sq kd id ep va6 vn vc6 sp nm nu by1 ti pa6 pn pc6) (by go_simp) (by first | (go_simp; done) | (go_simp; rfl)) 25 _ E6_5.out CZ.out rfl (cm_one _ _ _ _ _ _ _ _ _ _ _ _ _ _ _ _) ?_
          intro d6 hr hu
          have E6_6 := Lib.hid hr
          have J_6 := Lib.hid (J_5.out.trans (hu.below G6.out))
          have O5_6 := Lib.hid (O5_5.out.upd hu (lso_ne O5_5.out E6_5.out (by decide)))
          have P5_6 := Lib.hid (P5_5.out.upd hu (lso_ne P5_5.out E6_5.out (by decide)))
          have O6_6 := Lib.hid (O6_5.out.upd hu (lso_ne O6_5.out E6_5.out (by decide)))
          have P6_6 := Lib.hid (P6_5.out.upd hu (lso_ne P6_5.out E6_5.out (by decide)))
          have E5_6 := Lib.hid (E5_5.out.upd hu NE.out)
          clear hr hu
          refine hK _ _ ?_
          go_wp2_with fail
          go_meet
          case rel => exact ⟨g5, g6, va5, vc5, pa5, pc5, va6, vc6, pa6, pc6, rfl, rfl, Lib.hid ⟨E5_6.out, E6_6.out, O5_6.out, P5_6.out, O6_6.out, P6_6.out, G5.out, G6.out, J_6.out⟩⟩
        · refine one_list rfl rfl ?_
          intro K hK
          refine alloc_row rfl _ rfl _ CZZ.out ?_
          intro d3 hr hb hz
          obtain ⟨g5, hg⟩ : ∃ g, d2.heap.size = g := ⟨_, rfl⟩
          rw [hg] at hr ⊢
          have E5_3 := Lib.hid hr
          have G5 := Lib.hid (show w3.heap.size ≤ g5 by rw [← hg]; exact J_2.out.size)
          have NE := Lib.hid (show g5 ≠ g6 by rw [← hg]; exact Nat.ne_of_gt E6_2.out.lt)
          have J_3 := Lib.hid (J_2.out.trans (hb.mono J_2.out.size))
          have E6_3 := Lib.hid (E6_2.out.below hb E6_2.out.lt)
          have O5_3 := Lib.hid (O5_2.out.kept hb)
          have P5_3 := Lib.hid (P5_2.out.kept hb)
          clear hr hb hz hg
          refine hK _ _ J_3.out ?_
          go_simp
          (refine t_call 3 rfl (by kernel_rfl) rfl (t_free rfl) 27 ?_ ?_ ?_; rotate_left; (focus (go_simp; rfl)))
          refine (HO2.out d3 (B3.out.trans (J_3.out.mono B3.out.size))).mono ?_
          rintro z d4 ⟨va6, vc6, pa6, pc6, rfl, ho, hp, hb⟩
          have O6_4 := Lib.hid (ho.base J_3.out.size)
          have P6_4 := Lib.hid (hp.base J_3.out.size)
          have J_4 := Lib.hid (J_3.out.trans (hb.mono J_3.out.size))
          have E6_4 := Lib.hid (E6_3.out.below hb E6_3.out.lt)
          have O5_4 := Lib.hid (O5_3.out.kept hb)
          have P5_4 := Lib.hid (P5_3.out.kept hb)
          have E5_4 := Lib.hid (E5_3.out.below hb E5_3.out.lt)
          clear ho hp hb
          refine ⟨_, rfl, J_4.out, ?_⟩
          go_simp
          (refine t_list 6 rfl (by kernel_rfl) rfl ?_; intro K hK)
          refine store_row rfl _ _ _ rfl g5 (cmC cl sq kd id ep va5 vn vc5 sp nm nu by1 ti pa5 pn pc5) (by go_simp) (by first | (go_simp; done) | (go_simp; rfl)) 25 _ E5_4.out CZ.out rfl (cm_one _ _ _ _ _ _ _ _ _ _ _ _ _ _ _ _) ?_
          intro d5 hr hu
          have E5_5 := Lib.hid hr
          have J_5 := Lib.hid (J_4.out.trans (hu.below G5.out))
          have E6_5 := Lib.hid (E6_4.out.upd hu NE.out.symm)
          have O5_5 := Lib.hid (O5_4.out.upd hu (lso_ne O5_4.out E5_4.out (by decide)))
          have P5_5 := Lib.hid (P5_4.out.upd hu (lso_ne P5_4.out E5_4.out (by decide)))
          have O6_5 := Lib.hid (O6_4.out.upd hu (lso_ne O6_4.out E5_4.out (by decide)))
          have P6_5 := Lib.hid (P6_4.out.upd hu (lso_ne P6_4.out E5_4.out (by decide)))
          clear hr hu
          refine hK _ _ J_5.out ?_
          go_simp
          (refine t_last 7 rfl (by kernel_rfl) rfl (by kernel_rfl) (by kernel_rfl) ?_; intro K hK)
          refine store_row rfl _ _ _ rfl g6 (cmC cl sq kd id ep va6 vn vc6 sp nm nu by1 ti pa6 pn pc6) (by go_simp) (by first | (go_simp; done) | (go_simp; rfl)) 25 _ E6_5.out CZ.out rfl (cm_one _ _ _ _ _ _ _ _ _ _ _ _ _ _ _ _) ?_
          intro d6 hr hu
          have E6_6 := Lib.hid hr
          have J_6 := Lib.hid (J_5.out.trans (hu.below G6.out))
          have O5_6 := Lib.hid (O5_5.out.upd hu (lso_ne O5_5.out E6_5.out (by decide)))
          have P5_6 := Lib.hid (P5_5.out.upd hu (lso_ne P5_5.out E6_5.out (by decide)))
          have E5_6 := Lib.hid (E5_5.out.upd hu NE.out)
          have O6_6 := Lib.hid (O6_5.out.upd hu (lso_ne O6_5.out E6_5.out (by decide)))
          have P6_6 := Lib.hid (P6_5.out.upd hu (lso_ne P6_5.out E6_5.out (by decide)))
          clear hr hu
          refine hK _ _ ?_
          go_wp2_with fail
          go_meet
          case rel => exact ⟨g5, g6, va5, vc5, pa5, pc5, va6, vc6, pa6, pc6, rfl, rfl, Lib.hid ⟨E5_6.out, E6_6.out, O5_6.out, P5_6.out, O6_6.out, P6_6.out, G5.out, G6.out, J_6.out⟩⟩
      · refine one_list rfl rfl ?_
        intro K hK
        refine alloc_row rfl _ rfl _ CZZ.out ?_
        intro d2 hr hb hz
        obtain ⟨g5, hg⟩ : ∃ g, d1.heap.size = g := ⟨_, rfl⟩
        rw [hg] at hr ⊢
        have E5_2 := Lib.hid hr
        have G5 := Lib.hid (show w3.heap.size ≤ g5 by rw [← hg]; exact J_1.out.size)
        have NE := Lib.hid (show g5 ≠ g6 by rw [← hg]; exact Nat.ne_of_gt E6_1.out.lt)
        have J_2 := Lib.hid (J_1.out.trans (hb.mono J_1.out.size))
        have E6_2 := Lib.hid (E6_1.out.below hb E6_1.out.lt)
        clear hr hb hz hg
        refine hK _ _ J_2.out ?_
        go_simp
        (refine t_call 1 rfl (by kernel_rfl) rfl (t_free rfl) 26 ?_ ?_ ?_; rotate_left; (focus (go_simp; rfl)))
        refine (HO1.out d2 (B3.out.trans (J_2.out.mono B3.out.size))).mono ?_
        rintro z d3 ⟨va5, vc5, pa5, pc5, rfl, ho, hp, hb⟩
        have O5_3 := Lib.hid (ho.base J_2.out.size)
        have P5_3 := Lib.hid (hp.base J_2.out.size)
        have J_3 := Lib.hid (J_2.out.trans (hb.mono J_2.out.size))
        have E6_3 := Lib.hid (E6_2.out.below hb E6_2.out.lt)
        have E5_3 := Lib.hid (E5_2.out.below hb E5_2.out.lt)
        clear ho hp hb
        refine ⟨_, rfl, J_3.out, ?_⟩
        go_simp
        (refine t_call 3 rfl (by kernel_rfl) rfl (t_free rfl) 27 ?_ ?_ ?_; rotate_left; (focus (go_simp; rfl)))
        refine (HO2.out d3 (B3.out.trans (J_3.out.mono B3.out.size))).mono ?_
        rintro z d4 ⟨va6, vc6, pa6, pc6, rfl, ho, hp, hb⟩
        have O6_4 := Lib.hid (ho.base J_3.out.size)
        have P6_4 := Lib.hid (hp.base J_3.out.size)
        have J_4 := Lib.hid (J_3.out.trans (hb.mono J_3.out.size))
        have E6_4 := Lib.hid (E6_3.out.below hb E6_3.out.lt)
        have E5_4 := Lib.hid (E5_3.out.below hb E5_3.out.lt)
        have O5_4 := Lib.hid (O5_3.out.kept hb)
        have P5_4 := Lib.hid (P5_3.out.kept hb)
        clear ho hp hb
        refine ⟨_, rfl, J_4.out, ?_⟩
        go_simp
        (refine t_list 6 rfl (by kernel_rfl) rfl ?_; intro K hK)
        refine store_row rfl _ _ _ rfl g5 (cmC cl sq kd id ep va5 vn vc5 sp nm nu by1 ti pa5 pn pc5) (by go_simp) (by first | (go_simp; done) | (go_simp; rfl)) 25 _ E5_4.out CZ.out rfl (cm_one _ _ _ _ _ _ _ _ _ _ _ _ _ _ _ _) ?_
        intro d5 hr hu
        have E5_5 := Lib.hid hr
        have J_5 := Lib.hid (J_4.out.trans (hu.below G5.out))
        have E6_5 := Lib.hid (E6_4.out.upd hu NE.out.symm)
        have O5_5 := Lib.hid (O5_4.out.upd hu (lso_ne O5_4.out E5_4.out (by decide)))
        have P5_5 := Lib.hid (P5_4.out.upd hu (lso_ne P5_4.out E5_4.out (by decide)))
        have O6_5 := Lib.hid (O6_4.out.upd hu (lso_ne O6_4.out E5_4.out (by decide)))
        have P6_5 := Lib.hid (P6_4.out.upd hu (lso_ne P6_4.out E5_4.out (by decide)))
        clear hr hu
        refine hK _ _ J_5.out ?_
        go_simp
        (refine t_last 7 rfl (by kernel_rfl) rfl (by kernel_rfl) (by kernel_rfl) ?_; intro K hK)
        refine store_row rfl _ _ _ rfl g6 (cmC cl sq kd id ep va6 vn vc6 sp nm nu by1 ti pa6 pn pc6) (by go_simp) (by first | (go_simp; done) | (go_simp; rfl)) 25 _ E6_5.out CZ.out rfl (cm_one _ _ _ _ _ _ _ _ _ _ _ _ _ _ _ _) ?_
        intro d6 hr hu
        have E6_6 := Lib.hid hr
        have J_6 := Lib.hid (J_5.out.trans (hu.below G6.out))
        have E5_6 := Lib.hid (E5_5.out.upd hu NE.out)
        have O5_6 := Lib.hid (O5_5.out.upd hu (lso_ne O5_5.out E6_5.out (by decide)))
        have P5_6 := Lib.hid (P5_5.out.upd hu (lso_ne P5_5.out E6_5.out (by decide)))
        have O6_6 := Lib.hid (O6_5.out.upd hu (lso_ne O6_5.out E6_5.out (by decide)))
        have P6_6 := Lib.hid (P6_5.out.upd hu (lso_ne P6_5.out E6_5.out (by decide)))
        clear hr hu
        refine hK _ _ ?_
        go_wp2_with fail
        go_meet
        case rel => exact ⟨g5, g6, va5, vc5, pa5, pc5, va6, vc6, pa6, pc6, rfl, rfl, Lib.hid ⟨E5_6.out, E6_6.out, O5_6.out, P5_6.out, O6_6.out, P6_6.out, G5.out, G6.out, J_6.out⟩⟩
  case rest =>
    obtain ⟨g5, g6, va5, vc5, pa5, pc5, va6, vc6, pa6, pc6, rfl, rfl, HR⟩ := hcut
    have R5 := Lib.hid HR.out.r5
    have R6 := Lib.hid HR.out.r6
    have WV := Lib.hid HR.out.o5.wr
    have WP := Lib.hid HR.out.p5.wr
    have HS := Lib.hid (HSM.out wc va5 vc5 pa5 pc5 va6 vc6 pa6 pc6 (HV2.out wc _ _ _ HR.out.o5) (HP2.out wc _ _ _ HR.out.p5) (HV2.out wc _ _ _ HR.out.o6) (HP2.out wc _ _ _ HR.out.p6))
    have JC := Lib.hid HR.out.bel
    go_wp2_with (first
      | ((with_reducible refine load_row (o := ⟨some 33, _, _, _, _, _⟩) rfl _ _ rfl g5 ?_ _ (cmC cl sq kd id ep va5 vn vc5 sp nm nu by1 ti pa5 pn pc5) _ R5.out Try.underlying25 rfl ?_ ?_); (focus go_simp); (focus (exact CZ.out)))
      | ((with_reducible refine load_row (o := ⟨some 34, _, _, _, _, _⟩) rfl _ _ rfl g6 ?_ _ (cmC cl sq kd id ep va6 vn vc6 sp nm nu by1 ti pa6 pn pc6) _ R6.out Try.underlying25 rfl ?_ ?_); (focus go_simp); (focus (exact CZ.out)))
      | (go_at_call 15; (with_reducible refine HS.out.mono ?_); rintro z w5 ⟨rfl, hb⟩; have R55 := Lib.hid (R5.out.below hb R5.out.lt); have WV5 := Lib.hid (WV.out.below hb); have WP5 := Lib.hid (WP.out.below hb); have J5 := Lib.hid (JC.out.trans (hb.mono JC.out.size)); have k5 := R55.out.cm'.c5; clear hb))
    clear k5
    go_loopw [39] (fun i wr => ∃ k : Nat, i = .int .i64 (k : Int) ∧ k ≤ vn ∧ Hid (Below w3.heap.size w3 wr) ∧ Hid (Row wr g5 25 (cmC cl sq kd id ep va5 vn vc5 sp nm nu by1 ti pa5 pn pc5)) ∧ Hid (WrL cvE wr w3.heap.size va5 vn) ∧ Hid (WrL pcE wr w3.heap.size pa5 pn)) (fun i _ => vn - (intOf i).toNat)
    case atStart => exact ⟨0, rfl, Nat.zero_le _, J5, R55, WV5, WP5⟩
    case round =>
      obtain ⟨k, rfl, hk, JB, RB, VB, PB⟩ := hrel
      by_cases hlt : k < vn
      · obtain ⟨gw, CW, rfl, hgw, hrw, hlw⟩ := (VB.out : WrL _ _ _ _ _).resolve_left (by omega)
        have RW := Lib.hid hrw
        have GW := Lib.hid hgw
        have LW := Lib.hid hlw
        have cc := RB.out.cm'.c5
        have q1 : (0 : Int) ≤ (k : Int) := by omega
        have q2 : (k : Int) < (vn : Int) := by omega
        clear hgw hrw hlw
        go_wp2_with (first
          | ((with_reducible refine store_cell (o := ⟨none, _, _, _, _, _⟩) rfl _ _ _ rfl gw (k * 3 + 0) (.int .i64 (-1)) ?_ ?_ rfl rfl 51 _ RW.out ?_ ?_ ?_); (focus (first | (go_simp; done) | (go_simp; simp; done) | (go_simp; congr 2; omega) | (go_simp; simp; omega))); (focus (first | (go_simp; done) | (go_simp; rfl))); (focus (kernel_rfl)); (focus (have h1 := LW.out; have h2 : vn * 3 ≤ CW.length := h1; have h3 : k * 3 + 3 ≤ vn * 3 := (by have := Nat.mul_le_mul_right 3 (show k + 1 ≤ vn from hlt); rw [Nat.succ_mul] at this; exact this); omega)); intro wu hr hu; have JB2 := Lib.hid (JB.out.trans (hu.below GW.out)); have RB2 := Lib.hid (RB.out.upd hu (row_ne23 RB.out RW.out (by decide))); have VB2 := Lib.hid (show WrL cvE wu w3.heap.size (some ⟨gw, 0, none⟩) vn from .inr ⟨gw, _, rfl, GW.out, hr, by rw [List.length_set]; exact LW.out⟩); have PB2 := Lib.hid (PB.out.other RW.out (by decide) hu); clear hr hu cc))
        go_roundw
        case rel => exact ⟨k + 1, vint (by omega), by omega, JB2, RB2, VB2, PB2⟩
        case measure => simp [intOf]; omega
      · obtain rfl : vn = k := by omega
        have cc := RB.out.cm'.c11
        go_wp2_with fail
        clear cc
        go_loopw [51] (fun i wr => ∃ k : Nat, i = .int .i64 (k : Int) ∧ k ≤ pn ∧ Hid (Below w3.heap.size w3 wr) ∧ Hid (Row wr g5 25 (cmC cl sq kd id ep va5 vn vc5 sp nm nu by1 ti pa5 pn pc5)) ∧ Hid (WrL cvE wr w3.heap.size va5 vn) ∧ Hid (WrL pcE wr w3.heap.size pa5 pn)) (fun i _ => pn - (intOf i).toNat)
        case atStart => exact ⟨0, rfl, Nat.zero_le _, JB, RB, VB, PB⟩
        case round =>
          obtain ⟨k, rfl, hk, JB, RB, VB, PB⟩ := hrel
          by_cases hlt : k < pn
          · obtain ⟨gw, CW, rfl, hgw, hrw, hlw⟩ := (PB.out : WrL _ _ _ _ _).resolve_left (by omega)
            have RW := Lib.hid hrw
            have GW := Lib.hid hgw
            have LW := Lib.hid hlw
            have cc := RB.out.cm'.c11
            have q1 : (0 : Int) ≤ (k : Int) := by omega
            have q2 : (k : Int) < (pn : Int) := by omega
            clear hgw hrw hlw
            go_wp2_with (first
              | ((with_reducible refine store_cell (o := ⟨none, _, _, _, _, _⟩) rfl _ _ _ rfl gw (k * 2 + 1) (.int .i64 (-1)) ?_ ?_ rfl rfl 54 _ RW.out ?_ ?_ ?_); (focus (first | (go_simp; done) | (go_simp; simp; done) | (go_simp; congr 2; omega) | (go_simp; simp; omega))); (focus (first | (go_simp; done) | (go_simp; rfl))); (focus (kernel_rfl)); (focus (have h1 := LW.out; have h2 : pn * 2 ≤ CW.length := h1; have h3 : k * 2 + 2 ≤ pn * 2 := (by have := Nat.mul_le_mul_right 2 (show k + 1 ≤ pn from hlt); rw [Nat.succ_mul] at this; exact this); omega)); intro wu hr hu; have JB2 := Lib.hid (JB.out.trans (hu.below GW.out)); have RB2 := Lib.hid (RB.out.upd hu (row_ne23 RB.out RW.out (by decide))); have PB2 := Lib.hid (show WrL pcE wu w3.heap.size (some ⟨gw, 0, none⟩) pn from .inr ⟨gw, _, rfl, GW.out, hr, by rw [List.length_set]; exact LW.out⟩); have VB2 := Lib.hid (VB.out.other RW.out (by decide) hu); clear hr hu cc))
            go_roundw
            case rel => exact ⟨k + 1, vint (by omega), by omega, JB2, RB2, VB2, PB2⟩
            case measure => simp [intOf]; omega
          · obtain rfl : pn = k := by omega
            have BR := Lib.hid (B3.out.trans (JB.out.mono B3.out.size))
            have XR := Lib.hid (X3.out.below JB.out (Nat.lt_of_lt_of_le X3.out.lt (Nat.le_refl _)))
            have f7 := (Row.rq (x := ⟨ln, cl, sq, kd, tl, id, ep, va, vn, vc, tg, sp, nm, nu, by1, ti, pa, pn, pc, da, dn, dc, tk, V, PL⟩) XR.out).c7
            have f14 := (Row.rq (x := ⟨ln, cl, sq, kd, tl, id, ep, va, vn, vc, tg, sp, nm, nu, by1, ti, pa, pn, pc, da, dn, dc, tk, V, PL⟩) XR.out).c14
            dsimp only at f7 f14
            have A3R := Lib.hid (A3.out.mono JB.out)
            have D3R := Lib.hid (D3.out.mono pcOk JB.out)
            go_wp2_with (first
              | (go_at_call 28; (with_reducible refine (HS1.out wr a3 c3 BR.out A3R.out).mono ?_); rintro z w8 ⟨rfl, hb⟩; have B8 := Lib.hid (BR.out.trans (hb.mono BR.out.size)); have f14 := (Row.rq (x := ⟨ln, cl, sq, kd, tl, id, ep, va, vn, vc, tg, sp, nm, nu, by1, ti, pa, pn, pc, da, dn, dc, tk, V, PL⟩) (XR.out.below hb XR.out.lt)).c14; have D8 := Lib.hid (D3R.out.mono pcOk hb); dsimp only at f14; clear hb)
              | (go_at_call 29; (with_reducible refine (HS2.out w8 a4 c4 B8.out D8.out).mono ?_); rintro z w9 ⟨rfl, hb⟩; have B9 := Lib.hid (B8.out.trans (hb.mono B8.out.size)); clear hb)
              | (go_at_call 8; (with_reducible refine (HA.out w9).mono ?_); rintro z w10 ⟨rfl, hb⟩; have B10 := Lib.hid (B9.out.trans (hb.mono B9.out.size)); clear hb))
            go_ret
            exact ⟨by first | rfl | exact one (vbool (by simp)), B10.out⟩
end Go.Proofs.Ytmacjpgeamlmhaa.W
