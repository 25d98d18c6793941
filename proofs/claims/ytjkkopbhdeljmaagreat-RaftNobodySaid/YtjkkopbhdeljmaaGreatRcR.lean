/- LAYER 11 (record): ReadEntry of both. -/
import Derived.Test.YtjkkopbhdeljmaaGreatRcW
import Derived.Laws.ResultCell
set_option linter.unusedSimpArgs false
set_option linter.unusedVariables false
namespace Go.Proofs.YtjkkopbhdeljmaaGreat.W
open Go Go.ChangeShapes Go.WideShapes Go.ChangeAt Go.RowKit
open Go.Proofs.YtjkkopbhdeljmaaGreat.P (enc dec)

/-- may an entry of these numbers, and of so many bytes, be -/
def okP (ix tm kd : Int) (n : Nat) : Bool := enOk ⟨ix, tm, kd, none, n, 0⟩
abbrev EnR := (Int × Int × Int × List UInt8) × List UInt8 × Int
def finE (ix tm kd : Int) (d : List UInt8) (l : List UInt8) (e : Int) : EnR :=
  if okP ix tm kd d.length then (if e ≠ 0 then (0, 0, 0, []) else (ix, tm, kd, d), l, e) else ((0, 0, 0, []), failL l e 3, failE e 3)
def eR1 (l : List UInt8) (e : Int) := numR 2147483648 (numR 2147483648 l e).2.1 (numR 2147483648 l e).2.2
def eR2 (l : List UInt8) (e : Int) := numR 2 (eR1 l e).2.1 (eR1 l e).2.2
def eR3 (l : List UInt8) (e : Int) := textR 4096 (eR2 l e).2.1 (eR2 l e).2.2
/-- what reading an entry answers, what is left, the error -/
def rdE (l : List UInt8) (e : Int) : EnR := finE (numR 2147483648 l e).1 (eR1 l e).1 (eR2 l e).1 (eR3 l e).1 (eR3 l e).2.1 (eR3 l e).2.2
theorem finE_no {ix tm kd : Int} {d l : List UInt8} {e : Int} (h : okP ix tm kd d.length = false) : finE ix tm kd d l e = ((0, 0, 0, []), failL l e 3, failE e 3) := by unfold finE; rw [h]; rfl
theorem finE_ok {ix tm kd : Int} {d l : List UInt8} (h : okP ix tm kd d.length = true) : finE ix tm kd d l 0 = ((ix, tm, kd, d), l, 0) := by unfold finE; rw [h]; rfl
theorem finE_err {ix tm kd : Int} {d l : List UInt8} {e : Int} (h : e ≠ 0) : finE ix tm kd d l e = ((0, 0, 0, []), l, e) := by
  unfold finE failL failE
  rcases okP ix tm kd d.length
  · rw [if_neg (by decide), if_pos (.inl h), if_pos (.inl h)]
  · rw [if_pos rfl, if_pos h]
theorem failE_ne (e : Int) : failE e 3 ≠ 0 := by
  unfold failE
  split
  · rename_i h; simpa using h
  · decide
theorem en_zero : (Tryz.prog.info? 69).map (·.zero) = some (some (.agg (En.cells ⟨0, 0, 0, none, 0, 0⟩).toArray)) := by kernel_rfl
theorem built_e3 (x y z : Int) : Tryz.prog.built 69 [(0, .int .i64 x), (1, .int .i64 y), (2, .int .i64 z)] = some (En.cells ⟨x, y, z, none, 0, 0⟩).toArray := by kernel_rfl
theorem built_e1 (x : Int) : Tryz.prog.built 69 [(0, .int .i64 x)] = some (En.cells ⟨x, 0, 0, none, 0, 0⟩).toArray := by kernel_rfl
theorem built_e0 : Tryz.prog.built 69 [] = some (En.cells ⟨0, 0, 0, none, 0, 0⟩).toArray := by kernel_rfl
def NB (cs : List Value) : Prop := ∀ x : UInt8, B x ∉ cs
theorem RP.put {w w' : World} {p g : Nat} {t : TypeId} {l : List UInt8} {e : Int} {L : List Value} (h : RP w p l e) (hpg : p ≠ g) (hq : Row w g t L) (hnb : NB L) (hu : Upd w w' g) : RP w' p l e := by
  obtain ⟨a, cap, hh, hr⟩ := h.ex
  exact ⟨⟨a, cap, by rw [hu.block p hpg]; exact hh, hr.upd' hu (hr.apart hq (fun x hx => hnb x (by simpa using hx)))⟩, h.small, h.hnone⟩
theorem Rd.put {w w' : World} {g : Nat} {t : TypeId} {a : Option Addr} {n c : Nat} {l : List UInt8} {L : List Value} (h : Rd w a n c l) (hq : Row w g t L) (hnb : NB L) (hu : Upd w w' g) : Rd w' a n c l :=
  h.upd' hu (h.apart hq (fun x hx => hnb x (by simpa using hx)))
theorem NB_en (x y z : Int) (a : Option Addr) (n c : Nat) : NB (En.cells ⟨x, y, z, a, n, c⟩) := by
  intro x hx
  simp [En.cells, B] at hx
set_option maxRecDepth 100000 in
set_option maxHeartbeats 8000000 in
theorem rreadE (p : Nat) (l : List UInt8) (e : Int) (w : World) (h : RP w p l e) (ix tm kd : Int) (dt lR : List UInt8) (eR : Int) (hR : rdE l e = ((ix, tm, kd, dt), lR, eR)) :
    Calls Tryz.prog 169 #[.pointer (some ⟨p, 0, none⟩)] w fun x w' => ∃ a n c, x = .returned (.agg (En.cells ⟨ix, tm, kd, a, n, c⟩).toArray) ∧ Rd w' a n c dt ∧ RP w' p lR eR ∧ Gw p w w' := by
  obtain ⟨B0, l1, e1, h0⟩ : ∃ x y z, numR 2147483648 l e = (x, y, z) := ⟨_, _, _, rfl⟩
  obtain ⟨B1, l2, e2, h1⟩ : ∃ x y z, numR 2147483648 l1 e1 = (x, y, z) := ⟨_, _, _, rfl⟩
  obtain ⟨B2, l3, e3, h2⟩ : ∃ x y z, numR 2 l2 e2 = (x, y, z) := ⟨_, _, _, rfl⟩
  obtain ⟨tx, l4, e4, h3⟩ : ∃ x y z, textR 4096 l3 e3 = (x, y, z) := ⟨_, _, _, rfl⟩
  obtain ⟨t4, ht4⟩ : ∃ t4, str tx = t4 := ⟨_, rfl⟩
  have hR2 : finE B0 B1 B2 tx l4 e4 = ((ix, tm, kd, dt), lR, eR) := by
    rw [← hR, rdE, eR3, eR2, eR1, h0]; dsimp only; rw [h1]; dsimp only; rw [h2]; dsimp only; rw [h3]
  have htz : t4.data.toList = tx := by rw [← ht4]; rfl
  have hts : t4.size ≤ 140737488355000 := by
    have hq : t4.size = tx.length := by rw [← htz]; simp
    rw [hq]
    have : (textR 4096 l3 e3).1.length ≤ 140737488355000 := by
      by_cases hz : (textR 4096 l3 e3).2.2 = 0
      · by_cases he3 : e3 = 0
        · subst he3; have := (text_back 4096 l3 hz).2; omega
        · rw [textR_err he3] at hz; exact absurd hz he3
      · rw [textR_none hz]; decide
    rw [h3] at this; exact this
  have HP := Lib.hid h
  have H0 := Lib.hid h0
  have H1 := Lib.hid h1
  have H2 := Lib.hid h2
  have H3 := Lib.hid h3
  have HT4 := Lib.hid ht4
  have HTZ := Lib.hid htz
  have HTS := Lib.hid hts
  have HR2 := Lib.hid hR2
  have EZ := Lib.hid en_zero
  have ES := Lib.hid en_size
  have PL := Lib.hid h.lt
  clear h0 h1 h2 h3 ht4 htz hts hR hR2 h
  obtain ⟨ok, hok⟩ : ∃ ok, okP B0 B1 B2 tx.length = ok := ⟨_, rfl⟩
  have HOK := Lib.hid hok
  clear hok
  go_enter Tryz.func169, Tryz.ntmps169
  go_wp2_with (first
    | ((with_reducible refine alloc_row (o := ⟨some 2, _, _, _, _, _⟩) rfl _ rfl _ EZ.out ?_); intro w1 hr1 hb1 hz1; have Z1 := Lib.hid hr1; have GB := Lib.hid (show p < w.heap.size from PL.out); have P1 := Lib.hid (HP.out.mono hb1); have G1 := Lib.hid (Gw.of_below (g := p) hb1); have S1 := Lib.hid hz1; clear hr1 hb1 hz1)
    | (go_at_call 114; (with_reducible refine (pnumR p 2147483648 l e w1 P1.out).mono ?_); rw [H0.out]; rintro x w2 ⟨rfl, hpw2, huw2⟩; have P2 := Lib.hid hpw2; have Z1 := Lib.hid (Z1.out.upd huw2 (by have := PL.out; have := GB.out; omega)); have G2 := Lib.hid (G1.out.trans (Gw.upd huw2)); clear hpw2 huw2)
    | (go_at_call 114; (with_reducible refine (pnumR p 2147483648 l1 e1 w2 P2.out).mono ?_); rw [H1.out]; rintro x w3 ⟨rfl, hpw3, huw3⟩; have P3 := Lib.hid hpw3; have Z1 := Lib.hid (Z1.out.upd huw3 (by have := PL.out; have := GB.out; omega)); have G3 := Lib.hid (G2.out.trans (Gw.upd huw3)); clear hpw3 huw3)
    | (go_at_call 114; (with_reducible refine (pnumR p 2 l2 e2 w3 P3.out).mono ?_); rw [H2.out]; rintro x w4 ⟨rfl, hpw4, huw4⟩; have P4 := Lib.hid hpw4; have Z1 := Lib.hid (Z1.out.upd huw4 (by have := PL.out; have := GB.out; omega)); have G4 := Lib.hid (G3.out.trans (Gw.upd huw4)); clear hpw4 huw4)
    | ((with_reducible refine build_row (o := ⟨some 10, _, _, _, _, _⟩) rfl _ _ rfl (En.cells ⟨B0, B1, B2, none, 0, 0⟩) ?_ ?_); (focus (go_simp; exact built_e3 _ _ _)))
    | ((with_reducible refine alloc_row (o := ⟨some 3, _, _, _, _, _⟩) rfl _ rfl _ EZ.out ?_); intro w5 hr5 hb5 hz5; have E5 := Lib.hid hr5; have GC := Lib.hid (show w.heap.size < w4.heap.size from Nat.lt_of_lt_of_le (by have := S1.out; omega) (Nat.lt_of_lt_of_le Z1.out.lt (Nat.le_refl _))); have Z1 := Lib.hid (Z1.out.below hb5 Z1.out.lt); have P5 := Lib.hid (P4.out.mono hb5); have G5 := Lib.hid (G4.out.trans (Gw.of_below hb5)); clear hr5 hb5 hz5)
    | ((with_reducible refine store_row (o := ⟨none, _, _, _, _, _⟩) rfl _ (.tmp 3) _ rfl w4.heap.size (En.cells ⟨B0, B1, B2, none, 0, 0⟩) ?_ ?_ 69 _ E5.out ?_ ?_ ?_ ?_); (focus go_simp); (focus (first | (go_simp; done) | (go_simp; rfl))); (focus (exact ES.out)); (focus rfl); (focus (exact en_one _)); intro w6 hr6 hu6; have E6 := Lib.hid hr6; have Z1 := Lib.hid (Z1.out.upd hu6 (by have := GC.out; omega)); have P6 := Lib.hid (P5.out.put (by have := GB.out; have := GC.out; omega) E5.out (NB_en _ _ _ _ _ _) hu6); have G6 := Lib.hid (G5.out.tail G4.out.size hu6); clear hr6 hu6)
    | (go_at_call 149; (with_reducible refine (ptextR p 4096 l3 e3 w6 P6.out).mono ?_); rw [H3.out]; dsimp only; rw [HT4.out]; rintro x w7 ⟨rfl, hpw7, huw7⟩; have P7 := Lib.hid hpw7; have Z1 := Lib.hid (Z1.out.upd huw7 (by have := PL.out; have := GB.out; omega)); have E6 := Lib.hid (E6.out.upd huw7 (by have := PL.out; have := GB.out; have := GC.out; omega)); have G7 := Lib.hid (G6.out.trans (Gw.upd huw7)); clear hpw7 huw7)
    | ((with_reducible refine conv_frx (o := ⟨some 13, _, _, _, _, _⟩) rfl _ rfl t4 ?_ ?_ ?_); (focus go_simp); (focus (have := HTS.out; unfold maxLen; omega)); intro w8 v8 hf8 hb8; rw [HTZ.out] at hf8; obtain ⟨a8, c8, hv8, hr8⟩ := hf8.form' tx.length rfl; subst hv8; have R8 := Lib.hid hr8; have Z1 := Lib.hid (Z1.out.below hb8 Z1.out.lt); have EL8 := Lib.hid (show w4.heap.size < w7.heap.size from E6.out.lt); have E6 := Lib.hid (E6.out.below hb8 E6.out.lt); have P8 := Lib.hid (P7.out.mono hb8); have G8 := Lib.hid (G7.out.trans (Gw.of_below hb8)); have E9 := Lib.hid (E6.out.setV 3 (.slice a8 tx.length c8)); have U9 := Lib.hid (Upd.setCell w8 w4.heap.size 3 (.slice a8 tx.length c8)); have R9 := Lib.hid (R8.out.put E6.out (NB_en _ _ _ _ _ _) U9.out); have Z9 := Lib.hid (Z1.out.upd U9.out (by have := GC.out; omega)); have P9 := Lib.hid (P8.out.put (by have := GB.out; have := GC.out; omega) E6.out (NB_en _ _ _ _ _ _) U9.out); have G9 := Lib.hid (G8.out.tail G4.out.size U9.out); have f3 := E6.out.frozen 3; obtain ⟨x0, x1, x2, x3⟩ := E6.out.q4; clear hf8 hb8 hr8))
  obtain ⟨w9, hw9⟩ : ∃ w9, w8.setCell ⟨w4.heap.size, 3, none⟩ (.slice a8 tx.length c8) = w9 := ⟨_, rfl⟩
  rw [hw9] at E9 U9 R9 Z9 P9 G9 ⊢
  clear hw9 x0 x1 x2 x3 f3
  refine (rentry ⟨B0, B1, B2, a8, tx.length, c8⟩ w9).mono ?_
  rw [show enOk ⟨B0, B1, B2, a8, tx.length, c8⟩ = ok from HOK.out]
  rintro x w10 ⟨rfl, hb10⟩
  have E10 := Lib.hid (E9.out.below hb10 E9.out.lt)
  have Z10 := Lib.hid (Z9.out.below hb10 Z9.out.lt)
  have P10 := Lib.hid (P9.out.mono hb10)
  have R10 := Lib.hid (R9.out.mono hb10)
  have G10 := Lib.hid (G9.out.trans (Gw.of_below hb10))
  clear hb10
  cases ok
  · have hR := HR2.out
    rw [finE_no HOK.out] at hR
    obtain ⟨fe, hfe⟩ : ∃ fe, failE e4 3 = fe := ⟨_, rfl⟩
    have hne : (fe != 0) = true := by rw [← hfe, bne_iff_ne]; exact failE_ne e4
    simp only [Prod.mk.injEq] at hR
    obtain ⟨⟨rfl, rfl, rfl, rfl⟩, rfl, rfl⟩ := hR
    have HFE := Lib.hid hfe
    clear hfe
    go_wp2_with (first
      | (go_at_call 159; refine (pfail p l4 e4 3 w10 P10.out).mono ?_; rw [HFE.out]; rintro x w11 ⟨rfl, hp11, hu11⟩; have P11 := Lib.hid hp11; have Z11 := Lib.hid (Z10.out.upd hu11 (by have := GB.out; omega)); have G11 := Lib.hid (G10.out.trans (Gw.upd hu11)); clear hp11 hu11)
      | (go_at_call 157; refine (perr p _ fe w11 P11.out).mono ?_; rintro x w' ⟨rfl, rfl⟩)
      | ((with_reducible refine build_row (o := ⟨some 23, _, _, _, _, _⟩) rfl _ _ rfl (En.cells ⟨0, 0, 0, none, 0, 0⟩) ?_ ?_); (focus (go_simp; exact built_e0)))
      | ((with_reducible refine store_row (o := ⟨none, _, _, _, _, _⟩) rfl _ (.tmp 2) _ rfl w.heap.size (En.cells ⟨0, 0, 0, none, 0, 0⟩) ?_ ?_ 69 _ Z11.out ?_ ?_ ?_ ?_); (focus go_simp); (focus (first | (go_simp; done) | (go_simp; rfl))); (focus (exact ES.out)); (focus rfl); (focus (exact en_one _)); intro w12 hr12 hu12; have R12 := Lib.hid hr12; have P12 := Lib.hid (P11.out.put (by have := GB.out; omega) Z11.out (NB_en _ _ _ _ _ _) hu12); have G12 := Lib.hid (G11.out.tail (Nat.le_refl _) hu12); clear hr12 hu12))
    rw [HFE.out]
    exact bodyPost_ret (results_cell_row rfl _ _ w.heap.size 69 _ _ _ (by go_simp) R12.out Tryz.underlying69 rfl ES.out) rfl ⟨none, 0, 0, rfl, Rd_nil _, P12.out, G12.out⟩
  · by_cases he4 : e4 = 0
    · subst he4
      have hR := HR2.out
      rw [finE_ok HOK.out] at hR
      simp only [Prod.mk.injEq] at hR
      obtain ⟨⟨rfl, rfl, rfl, rfl⟩, rfl, rfl⟩ := hR
      go_wp2_with (first
        | (go_at_call 157; refine (perr p _ 0 w10 P10.out).mono ?_; rintro x w' ⟨rfl, rfl⟩)
        | ((with_reducible refine load_row (o := ⟨some 24, _, _, _, _, _⟩) rfl _ _ rfl w4.heap.size ?_ _ (En.cells ⟨B0, B1, B2, a8, tx.length, c8⟩) _ E10.out Tryz.underlying69 rfl ?_ ?_); (focus go_simp); (focus (exact ES.out)))
        | ((with_reducible refine store_row (o := ⟨none, _, _, _, _, _⟩) rfl _ (.tmp 2) _ rfl w.heap.size (En.cells ⟨B0, B1, B2, a8, tx.length, c8⟩) ?_ ?_ 69 _ Z10.out ?_ ?_ ?_ ?_); (focus go_simp); (focus (first | (go_simp; done) | (go_simp; rfl))); (focus (exact ES.out)); (focus rfl); (focus (exact en_one _)); intro w12 hr12 hu12; have R12 := Lib.hid hr12; have P12 := Lib.hid (P10.out.put (by have := GB.out; omega) Z10.out (NB_en _ _ _ _ _ _) hu12); have G12 := Lib.hid (G10.out.tail (Nat.le_refl _) hu12); have R13 := Lib.hid (R10.out.put Z10.out (NB_en _ _ _ _ _ _) hu12); clear hr12 hu12))
      exact bodyPost_ret (results_cell_row rfl _ _ w.heap.size 69 _ _ _ (by go_simp) R12.out Tryz.underlying69 rfl ES.out) rfl ⟨a8, tx.length, c8, rfl, R13.out, P12.out, G12.out⟩
    · have hR := HR2.out
      rw [finE_err he4] at hR
      simp only [Prod.mk.injEq] at hR
      obtain ⟨⟨rfl, rfl, rfl, rfl⟩, rfl, rfl⟩ := hR
      have hne : (e4 != 0) = true := by rw [bne_iff_ne]; exact he4
      go_wp2_with (first
        | (go_at_call 157; refine (perr p _ e4 w10 P10.out).mono ?_; rintro x w' ⟨rfl, rfl⟩)
        | ((with_reducible refine build_row (o := ⟨some 23, _, _, _, _, _⟩) rfl _ _ rfl (En.cells ⟨0, 0, 0, none, 0, 0⟩) ?_ ?_); (focus (go_simp; exact built_e0)))
        | ((with_reducible refine store_row (o := ⟨none, _, _, _, _, _⟩) rfl _ (.tmp 2) _ rfl w.heap.size (En.cells ⟨0, 0, 0, none, 0, 0⟩) ?_ ?_ 69 _ Z10.out ?_ ?_ ?_ ?_); (focus go_simp); (focus (first | (go_simp; done) | (go_simp; rfl))); (focus (exact ES.out)); (focus rfl); (focus (exact en_one _)); intro w12 hr12 hu12; have R12 := Lib.hid hr12; have P12 := Lib.hid (P10.out.put (by have := GB.out; omega) Z10.out (NB_en _ _ _ _ _ _) hu12); have G12 := Lib.hid (G10.out.tail (Nat.le_refl _) hu12); clear hr12 hu12))
      exact bodyPost_ret (results_cell_row rfl _ _ w.heap.size 69 _ _ _ (by go_simp) R12.out Tryz.underlying69 rfl ES.out) rfl ⟨none, 0, 0, rfl, Rd_nil _, P12.out, G12.out⟩
end Go.Proofs.YtjkkopbhdeljmaaGreat.W
