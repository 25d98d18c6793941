/- LAYER 11 (record): read of the program. -/
import Derived.Test.YtggmindkpfpmhaaRcR
set_option linter.unusedSimpArgs false
set_option linter.unusedVariables false
namespace Go.Proofs.Ytggmindkpfpmhaa.W
open Go Go.ChangeShapes Go.WideShapes Go.ChangeAt Go.RowKit
open Go.Proofs.Ytggmindkpfpmhaa.P (enc dec)

/-- a record, read: its numbers and its bytes -/
structure RF where
  k : Int
  t : Int
  v : Int
  ix : Int
  tm : Int
  kd : Int
  dt : List UInt8
  i : Int
  f : Int
  sn : List UInt8
def RF.z (k : Int) : RF := ⟨k, 0, 0, 0, 0, 0, [], 0, 0, []⟩
def RF.rc (F : RF) (ea : Option Addr) (en ec : Nat) (a : Option Addr) (n c : Nat) : Rc := ⟨F.k, F.t, F.v, ⟨F.ix, F.tm, F.kd, ea, en, ec⟩, F.i, F.f, a, n, c⟩
def rd1 (l : List UInt8) (e : Int) : RF × List UInt8 × Int :=
  let p := numR 2147483648 l e
  let q := numR 2147483648 p.2.1 p.2.2
  let r := numR 127 q.2.1 q.2.2
  let s := textR 131072 r.2.1 r.2.2
  (⟨1, q.1, 0, 0, 0, 0, [], p.1, r.1, s.1⟩, s.2.1, s.2.2)
def rd2 (l : List UInt8) (e : Int) : RF × List UInt8 × Int :=
  let p := numR 2147483648 l e
  let q := numR 7 p.2.1 p.2.2
  (⟨2, p.1, q.1, 0, 0, 0, [], 0, 0, []⟩, q.2.1, q.2.2)
def rd3 (l : List UInt8) (e : Int) : RF × List UInt8 × Int :=
  let p := rdE l e
  (⟨3, 0, 0, p.1.1, p.1.2.1, p.1.2.2.1, p.1.2.2.2, 0, 0, []⟩, p.2.1, p.2.2)
def rd4 (l : List UInt8) (e : Int) : RF × List UInt8 × Int :=
  let p := numR 2147483648 l e
  (⟨4, 0, 0, 0, 0, 0, [], p.1, 0, []⟩, p.2.1, p.2.2)
/-- what reading a record answers, what is left, the error -/
def rdK (k : Nat) (l : List UInt8) (e : Int) : RF × List UInt8 × Int :=
  if k = 1 then rd1 l e else if k = 2 then rd2 l e else if k = 3 then rd3 l e else if k = 4 then rd4 l e else (RF.z k, l, e)
def rdR (l : List UInt8) (e : Int) : RF × List UInt8 × Int := rdK (numR 4 l e).1 (numR 4 l e).2.1 (numR 4 l e).2.2
theorem NB_rc (r : Rc) : NB r.cells := by
  intro x hx
  simp [Rc.cells, B] at hx
theorem NB_ls (x0 x1 x2 x3 x4 x5 x7 x8 : Int) (a b : Option Addr) (m c n d : Nat) : NB [.int .i64 x0, .int .i64 x1, .int .i64 x2, .int .i64 x3, .int .i64 x4, .int .i64 x5, .slice a m c, .int .i64 x7, .int .i64 x8, .slice b n d] := by
  intro x hx
  simp [B] at hx
theorem text_small (most : Int) (hm : most ≤ 140737488355000) (l : List UInt8) (e : Int) : (textR most l e).1.length ≤ 140737488355000 := by
  by_cases hz : (textR most l e).2.2 = 0
  · by_cases he : e = 0
    · subst he; have := (text_back most l hz).2; omega
    · rw [textR_err he] at hz; exact absurd hz he
  · rw [textR_none hz]; decide
set_option maxRecDepth 100000 in
set_option maxHeartbeats 8000000 in
theorem rread0 (p : Nat) (l : List UInt8) (e : Int) (w : World) (h : RP w p l e) (k : Nat) (l1 : List UInt8) (e1 : Int) (h0 : numR 4 l e = (k, l1, e1)) (hk : k ≠ 1 ∧ k ≠ 2 ∧ k ≠ 3 ∧ k ≠ 4) :
    Calls Try.prog 51 #[.pointer (some ⟨p, 0, none⟩)] w fun x w' => ∃ ea en ec a n c, x = .returned (.agg (RF.rc (rdK k l1 e1).1 ea en ec a n c).cells.toArray) ∧ Rd w' ea en ec (rdK k l1 e1).1.dt ∧ Rd w' a n c (rdK k l1 e1).1.sn ∧ RP w' p (rdK k l1 e1).2.1 (rdK k l1 e1).2.2 ∧ Gw p w w' := by
  have HP := Lib.hid h
  have RZ := Lib.hid rc_zero
  have RS := Lib.hid rc_size
  have PL := Lib.hid h.lt
  have H0 := Lib.hid h0
  clear h h0
  have hK : rdK k l1 e1 = (RF.z k, l1, e1) := by unfold rdK; rw [if_neg hk.1, if_neg hk.2.1, if_neg hk.2.2.1, if_neg hk.2.2.2]
  rw [hK]
  have k1 : (((k : Int)) == 1) = false := by simp; omega
  have k2 : (((k : Int)) == 2) = false := by simp; omega
  have k3 : (((k : Int)) == 3) = false := by simp; omega
  have k4 : (((k : Int)) == 4) = false := by simp; omega
  clear hk hK
  go_enter Try.func51, Try.ntmps51
  go_wp2_with (first
    | ((with_reducible refine alloc_row (o := ⟨some 2, _, _, _, _, _⟩) rfl _ rfl _ RZ.out ?_); intro w1 hr1 hb1 hz1; have Z1 := Lib.hid hr1; have P1 := Lib.hid (HP.out.mono hb1); have GB := Lib.hid (show p < w.heap.size from PL.out); have G1 := Lib.hid (Gw.of_below (g := p) hb1); clear hr1 hb1 hz1)
    | (go_at_call 60; (with_reducible refine (pnumR p 4 l e w1 P1.out).mono ?_); rw [H0.out]; rintro x w2 ⟨rfl, hp, hu⟩; have P2 := Lib.hid hp; have Z2 := Lib.hid (Z1.out.upd hu (by have := PL.out; omega)); have G2 := Lib.hid (G1.out.trans (Gw.upd hu)); clear hp hu)
    | ((with_reducible refine build_row (o := ⟨some 6, _, _, _, _, _⟩) rfl _ _ rfl (Rc.z k).cells ?_ ?_); (focus (go_simp; exact built_k _)))
    | ((with_reducible refine alloc_row (o := ⟨some 3, _, _, _, _, _⟩) rfl _ rfl _ RZ.out ?_); intro w3 hr3 hb3 hz3; have E3 := Lib.hid hr3; have GC := Lib.hid (show w.heap.size < w2.heap.size from Z2.out.lt); have GS := Lib.hid (show w.heap.size ≤ w2.heap.size from G2.out.size); have Z3 := Lib.hid (Z2.out.below hb3 Z2.out.lt); have P3 := Lib.hid (P2.out.mono hb3); have G3 := Lib.hid (G2.out.trans (Gw.of_below hb3)); clear hr3 hb3 hz3)
    | ((with_reducible refine store_row (o := ⟨none, _, _, _, _, _⟩) rfl _ (.tmp 3) _ rfl w2.heap.size (Rc.z k).cells ?_ ?_ 26 _ E3.out ?_ ?_ ?_ ?_); (focus go_simp); (focus (first | (go_simp; done) | (go_simp; rfl))); (focus (exact RS.out)); (focus rfl); (focus (exact rc_one _)); intro w4 hr4 hu4; have E4 := Lib.hid hr4; have Z4 := Lib.hid (Z3.out.upd hu4 (by have := GC.out; omega)); have P4 := Lib.hid (P3.out.put (by have := PL.out; have := GB.out; have := GC.out; omega) E3.out (NB_rc _) hu4); have G4 := Lib.hid (G3.out.tail GS.out hu4); have c0 := (show w4.cell? ⟨w2.heap.size, 0, none⟩ = some (.int .i64 (k : Int)) from hr4.q10.1); have E9 := E4; have Z9 := Z4; have P9 := P4; have G9 := G4; clear hr4 hu4)
    | ((with_reducible refine load_row (o := ⟨some 42, _, _, _, _, _⟩) rfl _ _ rfl w2.heap.size ?_ _ (Rc.z k).cells _ E9.out Try.underlying26 rfl ?_ ?_); (focus go_simp); (focus (exact RS.out)))
    | ((with_reducible refine store_row (o := ⟨none, _, _, _, _, _⟩) rfl _ (.tmp 2) _ rfl w.heap.size (Rc.z k).cells ?_ ?_ 26 _ Z9.out ?_ ?_ ?_ ?_); (focus go_simp); (focus (first | (go_simp; done) | (go_simp; rfl))); (focus (exact RS.out)); (focus rfl); (focus (exact rc_one _)); intro w10 hr10 hu10; have E10 := Lib.hid hr10; have P10 := Lib.hid (P9.out.put (by have := GB.out; omega) Z9.out (NB_rc _) hu10); have G10 := Lib.hid (G9.out.tail (Nat.le_refl _) hu10); clear hr10 hu10))
  exact bodyPost_ret (results_cell_row rfl _ _ w.heap.size 26 _ _ _ (by go_simp) E10.out Try.underlying26 rfl RS.out) rfl ⟨none, 0, 0, none, 0, 0, rfl, Rd_nil _, Rd_nil _, P10.out, G10.out⟩
set_option maxRecDepth 100000 in
set_option maxHeartbeats 8000000 in
theorem rread4 (p : Nat) (l : List UInt8) (e : Int) (w : World) (h : RP w p l e) (l1 : List UInt8) (e1 : Int) (h0 : numR 4 l e = (4, l1, e1)) :
    Calls Try.prog 51 #[.pointer (some ⟨p, 0, none⟩)] w fun x w' => ∃ ea en ec a n c, x = .returned (.agg (RF.rc (rdK 4 l1 e1).1 ea en ec a n c).cells.toArray) ∧ Rd w' ea en ec (rdK 4 l1 e1).1.dt ∧ Rd w' a n c (rdK 4 l1 e1).1.sn ∧ RP w' p (rdK 4 l1 e1).2.1 (rdK 4 l1 e1).2.2 ∧ Gw p w w' := by
  have HP := Lib.hid h
  have RZ := Lib.hid rc_zero
  have RS := Lib.hid rc_size
  have PL := Lib.hid h.lt
  have H0 := Lib.hid h0
  clear h h0
  obtain ⟨B1, l2, e2, h1⟩ : ∃ x y z, numR 2147483648 l1 e1 = (x, y, z) := ⟨_, _, _, rfl⟩
  have hK : rdK 4 l1 e1 = (⟨4, 0, 0, 0, 0, 0, [], B1, 0, []⟩, l2, e2) := by rw [rdK, if_neg (by decide), if_neg (by decide), if_neg (by decide), if_pos rfl, rd4, h1]
  rw [hK]
  have H1 := Lib.hid h1
  clear h1 hK
  go_enter Try.func51, Try.ntmps51
  go_wp2_with (first
    | ((with_reducible refine alloc_row (o := ⟨some 2, _, _, _, _, _⟩) rfl _ rfl _ RZ.out ?_); intro w1 hr1 hb1 hz1; have Z1 := Lib.hid hr1; have P1 := Lib.hid (HP.out.mono hb1); have GB := Lib.hid (show p < w.heap.size from PL.out); have G1 := Lib.hid (Gw.of_below (g := p) hb1); clear hr1 hb1 hz1)
    | (go_at_call 60; (with_reducible refine (pnumR p 4 l e w1 P1.out).mono ?_); rw [H0.out]; rintro x w2 ⟨rfl, hp, hu⟩; have P2 := Lib.hid hp; have Z2 := Lib.hid (Z1.out.upd hu (by have := PL.out; omega)); have G2 := Lib.hid (G1.out.trans (Gw.upd hu)); clear hp hu)
    | ((with_reducible refine build_row (o := ⟨some 6, _, _, _, _, _⟩) rfl _ _ rfl (Rc.z 4).cells ?_ ?_); (focus (go_simp; exact built_k _)))
    | ((with_reducible refine alloc_row (o := ⟨some 3, _, _, _, _, _⟩) rfl _ rfl _ RZ.out ?_); intro w3 hr3 hb3 hz3; have E3 := Lib.hid hr3; have GC := Lib.hid (show w.heap.size < w2.heap.size from Z2.out.lt); have GS := Lib.hid (show w.heap.size ≤ w2.heap.size from G2.out.size); have Z3 := Lib.hid (Z2.out.below hb3 Z2.out.lt); have P3 := Lib.hid (P2.out.mono hb3); have G3 := Lib.hid (G2.out.trans (Gw.of_below hb3)); clear hr3 hb3 hz3)
    | ((with_reducible refine store_row (o := ⟨none, _, _, _, _, _⟩) rfl _ (.tmp 3) _ rfl w2.heap.size (Rc.z 4).cells ?_ ?_ 26 _ E3.out ?_ ?_ ?_ ?_); (focus go_simp); (focus (first | (go_simp; done) | (go_simp; rfl))); (focus (exact RS.out)); (focus rfl); (focus (exact rc_one _)); intro w4 hr4 hu4; have E4 := Lib.hid hr4; have Z4 := Lib.hid (Z3.out.upd hu4 (by have := GC.out; omega)); have P4 := Lib.hid (P3.out.put (by have := PL.out; have := GB.out; have := GC.out; omega) E3.out (NB_rc _) hu4); have G4 := Lib.hid (G3.out.tail GS.out hu4); have c0 := (show w4.cell? ⟨w2.heap.size, 0, none⟩ = some (.int .i64 (4 : Int)) from hr4.q10.1); clear hr4 hu4)
    | (go_at_call 60; (with_reducible refine (pnumR p 2147483648 l1 e1 (w4) P4.out).mono ?_); rw [H1.out]; rintro x w5 ⟨rfl, hp, hu⟩; have P5 := Lib.hid hp; have E5 := Lib.hid (E4.out.upd hu (by have := PL.out; have := GB.out; have := GC.out; omega)); have Z5 := Lib.hid (Z4.out.upd hu (by have := PL.out; omega)); have G5 := Lib.hid (G4.out.trans (Gw.upd hu)); have Uq := Lib.hid (Upd.setCell (w5) w2.heap.size 7 (.int .i64 B1)); have E9 := Lib.hid (show Row ((w5).setCell ⟨w2.heap.size, 7, none⟩ (.int .i64 B1)) w2.heap.size 26 (Rc.cells ⟨4, 0, 0, ⟨0, 0, 0, none, 0, 0⟩, B1, 0, none, 0, 0⟩) from (E5.out).setV 7 (.int .i64 B1)); have P9 := Lib.hid (P5.out.put (by have := PL.out; have := GB.out; have := GC.out; omega) E5.out (NB_rc _) Uq.out); have Z9 := Lib.hid (Z5.out.upd Uq.out (by have := GC.out; omega)); have G9 := Lib.hid (G5.out.tail GS.out Uq.out); have f7 := E5.out.frozen 7; obtain ⟨d0, d1, d2, d3, d4, d5, d6, d7, d8, d9⟩ := E5.out.q10; clear Uq hp hu c0)
    | ((with_reducible refine load_row (o := ⟨some 42, _, _, _, _, _⟩) rfl _ _ rfl w2.heap.size ?_ _ (Rc.cells ⟨4, 0, 0, ⟨0, 0, 0, none, 0, 0⟩, B1, 0, none, 0, 0⟩) _ E9.out Try.underlying26 rfl ?_ ?_); (focus go_simp); (focus (exact RS.out)))
    | ((with_reducible refine store_row (o := ⟨none, _, _, _, _, _⟩) rfl _ (.tmp 2) _ rfl w.heap.size (Rc.cells ⟨4, 0, 0, ⟨0, 0, 0, none, 0, 0⟩, B1, 0, none, 0, 0⟩) ?_ ?_ 26 _ Z9.out ?_ ?_ ?_ ?_); (focus go_simp); (focus (first | (go_simp; done) | (go_simp; rfl))); (focus (exact RS.out)); (focus rfl); (focus (exact rc_one _)); intro w10 hr10 hu10; have E10 := Lib.hid hr10; have P10 := Lib.hid (P9.out.put (by have := GB.out; omega) Z9.out (NB_rc _) hu10); have G10 := Lib.hid (G9.out.tail (Nat.le_refl _) hu10); clear hr10 hu10))
  exact bodyPost_ret (results_cell_row rfl _ _ w.heap.size 26 _ _ _ (by go_simp) E10.out Try.underlying26 rfl RS.out) rfl ⟨none, 0, 0, none, 0, 0, rfl, Rd_nil _, Rd_nil _, P10.out, G10.out⟩
set_option maxRecDepth 100000 in
set_option maxHeartbeats 8000000 in
theorem rread2 (p : Nat) (l : List UInt8) (e : Int) (w : World) (h : RP w p l e) (l1 : List UInt8) (e1 : Int) (h0 : numR 4 l e = (2, l1, e1)) :
    Calls Try.prog 51 #[.pointer (some ⟨p, 0, none⟩)] w fun x w' => ∃ ea en ec a n c, x = .returned (.agg (RF.rc (rdK 2 l1 e1).1 ea en ec a n c).cells.toArray) ∧ Rd w' ea en ec (rdK 2 l1 e1).1.dt ∧ Rd w' a n c (rdK 2 l1 e1).1.sn ∧ RP w' p (rdK 2 l1 e1).2.1 (rdK 2 l1 e1).2.2 ∧ Gw p w w' := by
  have HP := Lib.hid h
  have RZ := Lib.hid rc_zero
  have RS := Lib.hid rc_size
  have PL := Lib.hid h.lt
  have H0 := Lib.hid h0
  clear h h0
  obtain ⟨B1, l2, e2, h1⟩ : ∃ x y z, numR 2147483648 l1 e1 = (x, y, z) := ⟨_, _, _, rfl⟩
  obtain ⟨B2, l3, e3, h2⟩ : ∃ x y z, numR 7 l2 e2 = (x, y, z) := ⟨_, _, _, rfl⟩
  have hK : rdK 2 l1 e1 = (⟨2, B1, B2, 0, 0, 0, [], 0, 0, []⟩, l3, e3) := by rw [rdK, if_neg (by decide), if_pos rfl, rd2, h1]; dsimp only; rw [h2]
  rw [hK]
  have H1 := Lib.hid h1
  have H2 := Lib.hid h2
  clear h1 h2 hK
  go_enter Try.func51, Try.ntmps51
  go_wp2_with (first
    | ((with_reducible refine alloc_row (o := ⟨some 2, _, _, _, _, _⟩) rfl _ rfl _ RZ.out ?_); intro w1 hr1 hb1 hz1; have Z1 := Lib.hid hr1; have P1 := Lib.hid (HP.out.mono hb1); have GB := Lib.hid (show p < w.heap.size from PL.out); have G1 := Lib.hid (Gw.of_below (g := p) hb1); clear hr1 hb1 hz1)
    | (go_at_call 60; (with_reducible refine (pnumR p 4 l e w1 P1.out).mono ?_); rw [H0.out]; rintro x w2 ⟨rfl, hp, hu⟩; have P2 := Lib.hid hp; have Z2 := Lib.hid (Z1.out.upd hu (by have := PL.out; omega)); have G2 := Lib.hid (G1.out.trans (Gw.upd hu)); clear hp hu)
    | ((with_reducible refine build_row (o := ⟨some 6, _, _, _, _, _⟩) rfl _ _ rfl (Rc.z 2).cells ?_ ?_); (focus (go_simp; exact built_k _)))
    | ((with_reducible refine alloc_row (o := ⟨some 3, _, _, _, _, _⟩) rfl _ rfl _ RZ.out ?_); intro w3 hr3 hb3 hz3; have E3 := Lib.hid hr3; have GC := Lib.hid (show w.heap.size < w2.heap.size from Z2.out.lt); have GS := Lib.hid (show w.heap.size ≤ w2.heap.size from G2.out.size); have Z3 := Lib.hid (Z2.out.below hb3 Z2.out.lt); have P3 := Lib.hid (P2.out.mono hb3); have G3 := Lib.hid (G2.out.trans (Gw.of_below hb3)); clear hr3 hb3 hz3)
    | ((with_reducible refine store_row (o := ⟨none, _, _, _, _, _⟩) rfl _ (.tmp 3) _ rfl w2.heap.size (Rc.z 2).cells ?_ ?_ 26 _ E3.out ?_ ?_ ?_ ?_); (focus go_simp); (focus (first | (go_simp; done) | (go_simp; rfl))); (focus (exact RS.out)); (focus rfl); (focus (exact rc_one _)); intro w4 hr4 hu4; have E4 := Lib.hid hr4; have Z4 := Lib.hid (Z3.out.upd hu4 (by have := GC.out; omega)); have P4 := Lib.hid (P3.out.put (by have := PL.out; have := GB.out; have := GC.out; omega) E3.out (NB_rc _) hu4); have G4 := Lib.hid (G3.out.tail GS.out hu4); have c0 := (show w4.cell? ⟨w2.heap.size, 0, none⟩ = some (.int .i64 (2 : Int)) from hr4.q10.1); clear hr4 hu4)
    | (go_at_call 60; (with_reducible refine (pnumR p 2147483648 l1 e1 (w4) P4.out).mono ?_); rw [H1.out]; rintro x w5 ⟨rfl, hp, hu⟩; have P5 := Lib.hid hp; have E5 := Lib.hid (E4.out.upd hu (by have := PL.out; have := GB.out; have := GC.out; omega)); have Z5 := Lib.hid (Z4.out.upd hu (by have := PL.out; omega)); have G5 := Lib.hid (G4.out.trans (Gw.upd hu)); clear hp hu)
    | (go_at_call 60; (with_reducible refine (pnumR p 7 l2 e2 (w5) P5.out).mono ?_); rw [H2.out]; rintro x w6 ⟨rfl, hp, hu⟩; have P6 := Lib.hid hp; have E6 := Lib.hid (E5.out.upd hu (by have := PL.out; have := GB.out; have := GC.out; omega)); have Z6 := Lib.hid (Z5.out.upd hu (by have := PL.out; omega)); have G6 := Lib.hid (G5.out.trans (Gw.upd hu)); have Uq := Lib.hid ((Upd.setCell (w6) w2.heap.size 1 (.int .i64 B1)).trans (Upd.setCell ((w6).setCell ⟨w2.heap.size, 1, none⟩ (.int .i64 B1)) w2.heap.size 2 (.int .i64 B2))); have E9 := Lib.hid (show Row (((w6).setCell ⟨w2.heap.size, 1, none⟩ (.int .i64 B1)).setCell ⟨w2.heap.size, 2, none⟩ (.int .i64 B2)) w2.heap.size 26 (Rc.cells ⟨2, B1, B2, ⟨0, 0, 0, none, 0, 0⟩, 0, 0, none, 0, 0⟩) from ((E6.out).setV 1 (.int .i64 B1)).setV 2 (.int .i64 B2)); have P9 := Lib.hid (P6.out.put (by have := PL.out; have := GB.out; have := GC.out; omega) E6.out (NB_rc _) Uq.out); have Z9 := Lib.hid (Z6.out.upd Uq.out (by have := GC.out; omega)); have G9 := Lib.hid (G6.out.tail GS.out Uq.out); have f1 := E6.out.frozen 1; have f2 := E6.out.frozen 2; obtain ⟨d0, d1, d2, d3, d4, d5, d6, d7, d8, d9⟩ := E6.out.q10; clear Uq hp hu c0)
    | ((with_reducible refine load_row (o := ⟨some 42, _, _, _, _, _⟩) rfl _ _ rfl w2.heap.size ?_ _ (Rc.cells ⟨2, B1, B2, ⟨0, 0, 0, none, 0, 0⟩, 0, 0, none, 0, 0⟩) _ E9.out Try.underlying26 rfl ?_ ?_); (focus go_simp); (focus (exact RS.out)))
    | ((with_reducible refine store_row (o := ⟨none, _, _, _, _, _⟩) rfl _ (.tmp 2) _ rfl w.heap.size (Rc.cells ⟨2, B1, B2, ⟨0, 0, 0, none, 0, 0⟩, 0, 0, none, 0, 0⟩) ?_ ?_ 26 _ Z9.out ?_ ?_ ?_ ?_); (focus go_simp); (focus (first | (go_simp; done) | (go_simp; rfl))); (focus (exact RS.out)); (focus rfl); (focus (exact rc_one _)); intro w10 hr10 hu10; have E10 := Lib.hid hr10; have P10 := Lib.hid (P9.out.put (by have := GB.out; omega) Z9.out (NB_rc _) hu10); have G10 := Lib.hid (G9.out.tail (Nat.le_refl _) hu10); clear hr10 hu10))
  exact bodyPost_ret (results_cell_row rfl _ _ w.heap.size 26 _ _ _ (by go_simp) E10.out Try.underlying26 rfl RS.out) rfl ⟨none, 0, 0, none, 0, 0, rfl, Rd_nil _, Rd_nil _, P10.out, G10.out⟩
set_option maxRecDepth 100000 in
set_option maxHeartbeats 8000000 in
theorem rread3 (p : Nat) (l : List UInt8) (e : Int) (w : World) (h : RP w p l e) (l1 : List UInt8) (e1 : Int) (h0 : numR 4 l e = (3, l1, e1)) :
    Calls Try.prog 51 #[.pointer (some ⟨p, 0, none⟩)] w fun x w' => ∃ ea en ec a n c, x = .returned (.agg (RF.rc (rdK 3 l1 e1).1 ea en ec a n c).cells.toArray) ∧ Rd w' ea en ec (rdK 3 l1 e1).1.dt ∧ Rd w' a n c (rdK 3 l1 e1).1.sn ∧ RP w' p (rdK 3 l1 e1).2.1 (rdK 3 l1 e1).2.2 ∧ Gw p w w' := by
  have HP := Lib.hid h
  have RZ := Lib.hid rc_zero
  have RS := Lib.hid rc_size
  have PL := Lib.hid h.lt
  have H0 := Lib.hid h0
  clear h h0
  obtain ⟨⟨ix, tm, kd, dt⟩, l2, e2, h1⟩ : ∃ x y z, rdE l1 e1 = (x, y, z) := ⟨_, _, _, rfl⟩
  have hK : rdK 3 l1 e1 = (⟨3, 0, 0, ix, tm, kd, dt, 0, 0, []⟩, l2, e2) := by rw [rdK, if_neg (by decide), if_neg (by decide), if_pos rfl, rd3, h1]
  rw [hK]
  have H1 := Lib.hid h1
  clear h1 hK
  go_enter Try.func51, Try.ntmps51
  go_wp2_with (first
    | ((with_reducible refine alloc_row (o := ⟨some 2, _, _, _, _, _⟩) rfl _ rfl _ RZ.out ?_); intro w1 hr1 hb1 hz1; have Z1 := Lib.hid hr1; have P1 := Lib.hid (HP.out.mono hb1); have GB := Lib.hid (show p < w.heap.size from PL.out); have G1 := Lib.hid (Gw.of_below (g := p) hb1); clear hr1 hb1 hz1)
    | (go_at_call 60; (with_reducible refine (pnumR p 4 l e w1 P1.out).mono ?_); rw [H0.out]; rintro x w2 ⟨rfl, hp, hu⟩; have P2 := Lib.hid hp; have Z2 := Lib.hid (Z1.out.upd hu (by have := PL.out; omega)); have G2 := Lib.hid (G1.out.trans (Gw.upd hu)); clear hp hu)
    | ((with_reducible refine build_row (o := ⟨some 6, _, _, _, _, _⟩) rfl _ _ rfl (Rc.z 3).cells ?_ ?_); (focus (go_simp; exact built_k _)))
    | ((with_reducible refine alloc_row (o := ⟨some 3, _, _, _, _, _⟩) rfl _ rfl _ RZ.out ?_); intro w3 hr3 hb3 hz3; have E3 := Lib.hid hr3; have GC := Lib.hid (show w.heap.size < w2.heap.size from Z2.out.lt); have GS := Lib.hid (show w.heap.size ≤ w2.heap.size from G2.out.size); have Z3 := Lib.hid (Z2.out.below hb3 Z2.out.lt); have P3 := Lib.hid (P2.out.mono hb3); have G3 := Lib.hid (G2.out.trans (Gw.of_below hb3)); clear hr3 hb3 hz3)
    | ((with_reducible refine store_row (o := ⟨none, _, _, _, _, _⟩) rfl _ (.tmp 3) _ rfl w2.heap.size (Rc.z 3).cells ?_ ?_ 26 _ E3.out ?_ ?_ ?_ ?_); (focus go_simp); (focus (first | (go_simp; done) | (go_simp; rfl))); (focus (exact RS.out)); (focus rfl); (focus (exact rc_one _)); intro w4 hr4 hu4; have E4 := Lib.hid hr4; have Z4 := Lib.hid (Z3.out.upd hu4 (by have := GC.out; omega)); have P4 := Lib.hid (P3.out.put (by have := PL.out; have := GB.out; have := GC.out; omega) E3.out (NB_rc _) hu4); have G4 := Lib.hid (G3.out.tail GS.out hu4); have c0 := (show w4.cell? ⟨w2.heap.size, 0, none⟩ = some (.int .i64 (3 : Int)) from hr4.q10.1); clear hr4 hu4)
    | (go_at_call 21; refine (rreadE p l1 e1 w4 P4.out ix tm kd dt l2 e2 H1.out).mono ?_; rintro x w5 ⟨xa, xn, xc, rfl, hx, hp, hg⟩; have X5 := Lib.hid hx; have P5 := Lib.hid hp; have E5 := Lib.hid (E4.out.gw hg (by have := PL.out; have := GB.out; have := GC.out; omega)); have Z5 := Lib.hid (Z4.out.gw hg (by have := PL.out; omega)); have G5 := Lib.hid (G4.out.trans hg); clear hx hp hg c0)
    | ((with_reducible refine store_part (o := ⟨none, _, _, _, _, _⟩) rfl _ (.tmp 36) _ rfl w2.heap.size 3 (En.cells ⟨ix, tm, kd, xa, xn, xc⟩) ?_ ?_ 26 _ E5.out ?_ ?_ ?_ ?_); (focus go_simp); (focus (first | (go_simp; done) | (go_simp; rfl))); (focus (exact en_size)); (focus (show 3 + 4 ≤ 10; decide)); (focus (exact en_one _)); intro w6 hr6 hu6; have E9 := Lib.hid (show Row w6 w2.heap.size 26 (Rc.cells ⟨3, 0, 0, ⟨ix, tm, kd, xa, xn, xc⟩, 0, 0, none, 0, 0⟩) from hr6); have Z9 := Lib.hid (Z5.out.upd hu6 (by have := GC.out; omega)); have P9 := Lib.hid (P5.out.put (by have := PL.out; have := GB.out; have := GC.out; omega) E5.out (NB_rc _) hu6); have G9 := Lib.hid (G5.out.tail GS.out hu6); have R9 := Lib.hid (X5.out.put E5.out (NB_rc _) hu6); clear hr6 hu6)
    | ((with_reducible refine load_row (o := ⟨some 42, _, _, _, _, _⟩) rfl _ _ rfl w2.heap.size ?_ _ (Rc.cells ⟨3, 0, 0, ⟨ix, tm, kd, xa, xn, xc⟩, 0, 0, none, 0, 0⟩) _ E9.out Try.underlying26 rfl ?_ ?_); (focus go_simp); (focus (exact RS.out)))
    | ((with_reducible refine store_row (o := ⟨none, _, _, _, _, _⟩) rfl _ (.tmp 2) _ rfl w.heap.size (Rc.cells ⟨3, 0, 0, ⟨ix, tm, kd, xa, xn, xc⟩, 0, 0, none, 0, 0⟩) ?_ ?_ 26 _ Z9.out ?_ ?_ ?_ ?_); (focus go_simp); (focus (first | (go_simp; done) | (go_simp; rfl))); (focus (exact RS.out)); (focus rfl); (focus (exact rc_one _)); intro w10 hr10 hu10; have E10 := Lib.hid hr10; have P10 := Lib.hid (P9.out.put (by have := GB.out; omega) Z9.out (NB_rc _) hu10); have G10 := Lib.hid (G9.out.tail (Nat.le_refl _) hu10); have RD := Lib.hid (R9.out.put Z9.out (NB_rc _) hu10); clear hr10 hu10))
  exact bodyPost_ret (results_cell_row rfl _ _ w.heap.size 26 _ _ _ (by go_simp) E10.out Try.underlying26 rfl RS.out) rfl ⟨xa, xn, xc, none, 0, 0, rfl, RD.out, Rd_nil _, P10.out, G10.out⟩
set_option maxRecDepth 100000 in
set_option maxHeartbeats 8000000 in
theorem rread1 (p : Nat) (l : List UInt8) (e : Int) (w : World) (h : RP w p l e) (l1 : List UInt8) (e1 : Int) (h0 : numR 4 l e = (1, l1, e1)) :
    Calls Try.prog 51 #[.pointer (some ⟨p, 0, none⟩)] w fun x w' => ∃ ea en ec a n c, x = .returned (.agg (RF.rc (rdK 1 l1 e1).1 ea en ec a n c).cells.toArray) ∧ Rd w' ea en ec (rdK 1 l1 e1).1.dt ∧ Rd w' a n c (rdK 1 l1 e1).1.sn ∧ RP w' p (rdK 1 l1 e1).2.1 (rdK 1 l1 e1).2.2 ∧ Gw p w w' := by
  have HP := Lib.hid h
  have RZ := Lib.hid rc_zero
  have RS := Lib.hid rc_size
  have PL := Lib.hid h.lt
  have H0 := Lib.hid h0
  clear h h0
  obtain ⟨B1, l2, e2, h1⟩ : ∃ x y z, numR 2147483648 l1 e1 = (x, y, z) := ⟨_, _, _, rfl⟩
  obtain ⟨B2, l3, e3, h2⟩ : ∃ x y z, numR 2147483648 l2 e2 = (x, y, z) := ⟨_, _, _, rfl⟩
  obtain ⟨B3, l4, e4, h3⟩ : ∃ x y z, numR 127 l3 e3 = (x, y, z) := ⟨_, _, _, rfl⟩
  obtain ⟨tx, l5, e5, h4⟩ : ∃ x y z, textR 131072 l4 e4 = (x, y, z) := ⟨_, _, _, rfl⟩
  obtain ⟨t4, ht4⟩ : ∃ t4, str tx = t4 := ⟨_, rfl⟩
  have hK : rdK 1 l1 e1 = (⟨1, B2, 0, 0, 0, 0, [], B1, B3, tx⟩, l5, e5) := by rw [rdK, if_pos rfl, rd1, h1]; dsimp only; rw [h2]; dsimp only; rw [h3]; dsimp only; rw [h4]
  rw [hK]
  have htz : t4.data.toList = tx := by rw [← ht4]; rfl
  have hts : t4.size ≤ 140737488355000 := by
    have hq : t4.size = tx.length := by rw [← htz]; simp
    rw [hq]
    have := text_small 131072 (by decide) l4 e4
    rw [h4] at this; exact this
  have H1 := Lib.hid h1
  have H2 := Lib.hid h2
  have H3 := Lib.hid h3
  have H4 := Lib.hid h4
  have HT4 := Lib.hid ht4
  have HTZ := Lib.hid htz
  have HTS := Lib.hid hts
  clear h1 h2 h3 h4 ht4 htz hts hK
  go_enter Try.func51, Try.ntmps51
  go_wp2_with (first
    | ((with_reducible refine alloc_row (o := ⟨some 2, _, _, _, _, _⟩) rfl _ rfl _ RZ.out ?_); intro w1 hr1 hb1 hz1; have Z1 := Lib.hid hr1; have P1 := Lib.hid (HP.out.mono hb1); have GB := Lib.hid (show p < w.heap.size from PL.out); have G1 := Lib.hid (Gw.of_below (g := p) hb1); clear hr1 hb1 hz1)
    | (go_at_call 60; (with_reducible refine (pnumR p 4 l e w1 P1.out).mono ?_); rw [H0.out]; rintro x w2 ⟨rfl, hp, hu⟩; have P2 := Lib.hid hp; have Z2 := Lib.hid (Z1.out.upd hu (by have := PL.out; omega)); have G2 := Lib.hid (G1.out.trans (Gw.upd hu)); clear hp hu)
    | ((with_reducible refine build_row (o := ⟨some 6, _, _, _, _, _⟩) rfl _ _ rfl (Rc.z 1).cells ?_ ?_); (focus (go_simp; exact built_k _)))
    | ((with_reducible refine alloc_row (o := ⟨some 3, _, _, _, _, _⟩) rfl _ rfl _ RZ.out ?_); intro w3 hr3 hb3 hz3; have E3 := Lib.hid hr3; have GC := Lib.hid (show w.heap.size < w2.heap.size from Z2.out.lt); have GS := Lib.hid (show w.heap.size ≤ w2.heap.size from G2.out.size); have Z3 := Lib.hid (Z2.out.below hb3 Z2.out.lt); have P3 := Lib.hid (P2.out.mono hb3); have G3 := Lib.hid (G2.out.trans (Gw.of_below hb3)); clear hr3 hb3 hz3)
    | ((with_reducible refine store_row (o := ⟨none, _, _, _, _, _⟩) rfl _ (.tmp 3) _ rfl w2.heap.size (Rc.z 1).cells ?_ ?_ 26 _ E3.out ?_ ?_ ?_ ?_); (focus go_simp); (focus (first | (go_simp; done) | (go_simp; rfl))); (focus (exact RS.out)); (focus rfl); (focus (exact rc_one _)); intro w4 hr4 hu4; have E4 := Lib.hid hr4; have Z4 := Lib.hid (Z3.out.upd hu4 (by have := GC.out; omega)); have P4 := Lib.hid (P3.out.put (by have := PL.out; have := GB.out; have := GC.out; omega) E3.out (NB_rc _) hu4); have G4 := Lib.hid (G3.out.tail GS.out hu4); have c0 := (show w4.cell? ⟨w2.heap.size, 0, none⟩ = some (.int .i64 (1 : Int)) from hr4.q10.1); clear hr4 hu4)
    | (go_at_call 60; (with_reducible refine (pnumR p 2147483648 l1 e1 (w4) P4.out).mono ?_); rw [H1.out]; rintro x w5 ⟨rfl, hp, hu⟩; have P5 := Lib.hid hp; have E5 := Lib.hid (E4.out.upd hu (by have := PL.out; have := GB.out; have := GC.out; omega)); have Z5 := Lib.hid (Z4.out.upd hu (by have := PL.out; omega)); have G5 := Lib.hid (G4.out.trans (Gw.upd hu)); clear hp hu)
    | (go_at_call 60; (with_reducible refine (pnumR p 2147483648 l2 e2 (w5) P5.out).mono ?_); rw [H2.out]; rintro x w6 ⟨rfl, hp, hu⟩; have P6 := Lib.hid hp; have E6 := Lib.hid (E5.out.upd hu (by have := PL.out; have := GB.out; have := GC.out; omega)); have Z6 := Lib.hid (Z5.out.upd hu (by have := PL.out; omega)); have G6 := Lib.hid (G5.out.trans (Gw.upd hu)); clear hp hu)
    | (go_at_call 60; (with_reducible refine (pnumR p 127 l3 e3 (w6) P6.out).mono ?_); rw [H3.out]; rintro x w7 ⟨rfl, hp, hu⟩; have P7 := Lib.hid hp; have E7 := Lib.hid (E6.out.upd hu (by have := PL.out; have := GB.out; have := GC.out; omega)); have Z7 := Lib.hid (Z6.out.upd hu (by have := PL.out; omega)); have G7 := Lib.hid (G6.out.trans (Gw.upd hu)); have Uq := Lib.hid (((Upd.setCell (w7) w2.heap.size 7 (.int .i64 B1)).trans (Upd.setCell ((w7).setCell ⟨w2.heap.size, 7, none⟩ (.int .i64 B1)) w2.heap.size 1 (.int .i64 B2))).trans (Upd.setCell (((w7).setCell ⟨w2.heap.size, 7, none⟩ (.int .i64 B1)).setCell ⟨w2.heap.size, 1, none⟩ (.int .i64 B2)) w2.heap.size 8 (.int .i64 B3))); have Ea := Lib.hid (show Row ((((w7).setCell ⟨w2.heap.size, 7, none⟩ (.int .i64 B1)).setCell ⟨w2.heap.size, 1, none⟩ (.int .i64 B2)).setCell ⟨w2.heap.size, 8, none⟩ (.int .i64 B3)) w2.heap.size 26 (Rc.cells ⟨1, B2, 0, ⟨0, 0, 0, none, 0, 0⟩, B1, B3, none, 0, 0⟩) from (((E7.out).setV 7 (.int .i64 B1)).setV 1 (.int .i64 B2)).setV 8 (.int .i64 B3)); have Pa := Lib.hid (P7.out.put (by have := PL.out; have := GB.out; have := GC.out; omega) E7.out (NB_rc _) Uq.out); have Za := Lib.hid (Z7.out.upd Uq.out (by have := GC.out; omega)); have Ga := Lib.hid (G7.out.tail GS.out Uq.out); have f7 := E7.out.frozen 7; have f1 := E7.out.frozen 1; have f8 := E7.out.frozen 8; obtain ⟨d0, d1, d2, d3, d4, d5, d6, d7, d8, d9⟩ := E7.out.q10; clear Uq hp hu c0)
    | (go_at_call 61; (with_reducible refine (ptextR p 131072 l4 e4 ((((w7).setCell ⟨w2.heap.size, 7, none⟩ (.int .i64 B1)).setCell ⟨w2.heap.size, 1, none⟩ (.int .i64 B2)).setCell ⟨w2.heap.size, 8, none⟩ (.int .i64 B3)) Pa.out).mono ?_); rw [H4.out]; dsimp only; rw [HT4.out]; rintro x w8 ⟨rfl, hp, hu⟩; have Pb := Lib.hid hp; have Zb := Lib.hid (Za.out.upd hu (by have := PL.out; omega)); have Eb := Lib.hid (Ea.out.upd hu (by have := PL.out; have := GB.out; have := GC.out; omega)); have Gb := Lib.hid (Ga.out.trans (Gw.upd hu)); clear hp hu f7 f1 f8 d0 d1 d2 d3 d4 d5 d6 d7 d8 d9)
    | ((with_reducible refine conv_frx (o := ⟨some 22, _, _, _, _, _⟩) rfl _ rfl t4 ?_ ?_ ?_); (focus go_simp); (focus (have := HTS.out; unfold maxLen; omega)); intro w9 v8 hf8 hb8; rw [HTZ.out] at hf8; obtain ⟨a8, c8, hv8, hr8⟩ := hf8.form' tx.length rfl; subst hv8; have R8 := Lib.hid hr8; have Z8 := Lib.hid (Zb.out.below hb8 Zb.out.lt); have E8 := Lib.hid (Eb.out.below hb8 Eb.out.lt); have P8 := Lib.hid (Pb.out.mono hb8); have G8 := Lib.hid (Gb.out.trans (Gw.of_below hb8)); have Uq := Lib.hid (Upd.setCell (w9) w2.heap.size 9 (.slice a8 tx.length c8)); have E9 := Lib.hid (show Row ((w9).setCell ⟨w2.heap.size, 9, none⟩ (.slice a8 tx.length c8)) w2.heap.size 26 (Rc.cells ⟨1, B2, 0, ⟨0, 0, 0, none, 0, 0⟩, B1, B3, a8, tx.length, c8⟩) from (E8.out).setV 9 (.slice a8 tx.length c8)); have P9 := Lib.hid (P8.out.put (by have := PL.out; have := GB.out; have := GC.out; omega) E8.out (NB_rc _) Uq.out); have Z9 := Lib.hid (Z8.out.upd Uq.out (by have := GC.out; omega)); have G9 := Lib.hid (G8.out.tail GS.out Uq.out); have R9 := Lib.hid (R8.out.put E8.out (NB_rc _) Uq.out); have f9 := E8.out.frozen 9; obtain ⟨d0, d1, d2, d3, d4, d5, d6, d7, d8, d9⟩ := E8.out.q10; clear Uq hf8 hb8 hr8)
    | ((with_reducible refine load_row (o := ⟨some 42, _, _, _, _, _⟩) rfl _ _ rfl w2.heap.size ?_ _ (Rc.cells ⟨1, B2, 0, ⟨0, 0, 0, none, 0, 0⟩, B1, B3, a8, tx.length, c8⟩) _ E9.out Try.underlying26 rfl ?_ ?_); (focus go_simp); (focus (exact RS.out)))
    | ((with_reducible refine store_row (o := ⟨none, _, _, _, _, _⟩) rfl _ (.tmp 2) _ rfl w.heap.size (Rc.cells ⟨1, B2, 0, ⟨0, 0, 0, none, 0, 0⟩, B1, B3, a8, tx.length, c8⟩) ?_ ?_ 26 _ Z9.out ?_ ?_ ?_ ?_); (focus go_simp); (focus (first | (go_simp; done) | (go_simp; rfl))); (focus (exact RS.out)); (focus rfl); (focus (exact rc_one _)); intro w10 hr10 hu10; have E10 := Lib.hid hr10; have P10 := Lib.hid (P9.out.put (by have := GB.out; omega) Z9.out (NB_rc _) hu10); have G10 := Lib.hid (G9.out.tail (Nat.le_refl _) hu10); have RD := Lib.hid (R9.out.put Z9.out (NB_rc _) hu10); clear hr10 hu10))
  exact bodyPost_ret (results_cell_row rfl _ _ w.heap.size 26 _ _ _ (by go_simp) E10.out Try.underlying26 rfl RS.out) rfl ⟨none, 0, 0, a8, tx.length, c8, rfl, Rd_nil _, RD.out, P10.out, G10.out⟩
theorem rread (p : Nat) (l : List UInt8) (e : Int) (w : World) (h : RP w p l e) (F : RF) (lR : List UInt8) (eR : Int) (hR : rdR l e = (F, lR, eR)) :
    Calls Try.prog 51 #[.pointer (some ⟨p, 0, none⟩)] w fun x w' => ∃ ea en ec a n c, x = .returned (.agg (F.rc ea en ec a n c).cells.toArray) ∧ Rd w' ea en ec F.dt ∧ Rd w' a n c F.sn ∧ RP w' p lR eR ∧ Gw p w w' := by
  obtain ⟨k, l1, e1, h0⟩ : ∃ x y z, numR 4 l e = (x, y, z) := ⟨_, _, _, rfl⟩
  have hq : rdK k l1 e1 = (F, lR, eR) := by rw [← hR, rdR, h0]
  have h1 : (rdK k l1 e1).1 = F := by rw [hq]
  have h2 : (rdK k l1 e1).2.1 = lR := by rw [hq]
  have h3 : (rdK k l1 e1).2.2 = eR := by rw [hq]
  rw [← h1, ← h2, ← h3]
  by_cases k1 : k = 1
  · subst k1; exact rread1 p l e w h l1 e1 h0
  by_cases k2 : k = 2
  · subst k2; exact rread2 p l e w h l1 e1 h0
  by_cases k3 : k = 3
  · subst k3; exact rread3 p l e w h l1 e1 h0
  by_cases k4 : k = 4
  · subst k4; exact rread4 p l e w h l1 e1 h0
  exact rread0 p l e w h k l1 e1 h0 ⟨k1, k2, k3, k4⟩
end Go.Proofs.Ytggmindkpfpmhaa.W
