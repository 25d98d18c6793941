/- LAYER 23 (command): Decode of the reference. LAYER 23 (command): the law CommandCodes. -/
import Derived.Test.YtmacjpgeamlmhaaMfPx
import Derived.Test.YtmacjpgeamlmhaaCmG
import Derived.Test.YtmacjpgeamlmhaaCmU
import Derived.Test.YtmacjpgeamlmhaaCavJ
import Derived.Test.YtmacjpgeamlmhaaCmS
import Derived.Test.YtmacjpgeamlmhaaCmT
import Derived.Test.YtmacjpgeamlmhaaCmW
import Derived.Test.YtmacjpgeamlmhaaLg
set_option linter.unusedSimpArgs false
set_option linter.unusedVariables false
namespace Go.Proofs.Ytmacjpgeamlmhaa.W
open Go Go.ChangeShapes Go.WideShapes Go.ChangeAt Go.RowKit
open Go.Proofs.Ytmacjpgeamlmhaa.P (enc dec)
open Go.Proofs.Ytmacjpgeamlmhaa.S

theorem allR_eq (l : List UInt8) (e : Int) : allR l e = rdVL l e := by
  unfold allR rdVL lsLm
  dsimp only
  by_cases h : (rdN (numR 8 l e).1 (numR 8 l e).2.1 (numR 8 l e).2.2).2.2 = 0
  · rw [if_neg (by simp [h]), if_pos h]
  · rw [if_pos h, if_neg h]
theorem FrN.lsn {w : World} {base : Nat} {v : Value} {L : List Cv} (h : FrN w base v L) : LsN cvE w base v L := h
theorem zallread (p : Nat) (l : List UInt8) (e : Int) (w : World) (h : RR w p l e) :
    Calls Try.prog 56 #[.pointer (some ⟨p, 0, none⟩)] w fun x w' => ∃ a m c, x = .returned (.slice a m c) ∧ (rdVL l e).1.length = m ∧ LsN cvE w' w.heap.size (.slice a m c) (rdVL l e).1 ∧ RR w' p (rdVL l e).2.1 (rdVL l e).2.2 ∧ Gw p w w' := by
  refine (uall_read p l e w h).mono ?_
  rw [allR_eq]
  rintro x w' ⟨v, rfl, hf, hP, hg⟩
  have hN := hf.lsn
  obtain ⟨a, c, rfl, -, -⟩ := (hN.lso cvOk).ls cvOk (fun x hx => rdVL_mem _ _ x hx)
  exact ⟨a, _, c, rfl, rfl, hN, hP, hg⟩
theorem zcm_built (q : Int) : Try.prog.built 25 [(0, .int .i64 q)] = some (cmC q 0 0 0 0 none 0 0 ⟨#[]⟩ ⟨#[]⟩ 0 0 0 none 0 0).toArray := by kernel_rfl
/-- while a command is read: the reader, the result's row, the command's row, its lists -/
structure KS (w0 w : World) (p : Nat) (l : List UInt8) (e : Int) (g2 gT : Nat) (C2 CT : List Value) (v : Value) (V : List Cv) (u : Value) (P : List Pc) : Prop where
  rr : RR w p l e
  r2 : Row w g2 25 C2
  rT : Row w gT 25 CT
  ln : LsN cvE w w0.heap.size v V
  lm : LsN pcE w w0.heap.size u P
  b : Below w0.heap.size w0 w
  pw : w0.heap.size ≤ p
  n2 : p ≠ g2
  nT : p ≠ gT
  n2T : g2 ≠ gT
  b2 : w0.heap.size ≤ g2
  bT : w0.heap.size ≤ gT
section
variable {w0 w w' : World} {p g2 gT : Nat} {l : List UInt8} {e : Int} {C2 CT : List Value} {v u : Value} {V : List Cv} {P : List Pc}
theorem KS.rd (h : KS w0 w p l e g2 gT C2 CT v V u P) {l' : List UInt8} {e' : Int} (hP : RR w' p l' e') (hg : Gw p w w') : KS w0 w' p l' e' g2 gT C2 CT v V u P :=
  ⟨hP, h.r2.gw hg h.n2.symm, h.rT.gw hg h.nT.symm, LsN.rr (by decide) cvNb h.ln h.rr hg, LsN.rr (by decide) pcNb h.lm h.rr hg, h.b.trans (hg.below h.pw h.b.size), h.pw, h.n2, h.nT, h.n2T, h.b2, h.bT⟩
theorem KS.grow (h : KS w0 w p l e g2 gT C2 CT v V u P) (hb : Below w.heap.size w w') : KS w0 w' p l e g2 gT C2 CT v V u P :=
  ⟨h.rr.mono hb, h.r2.below hb h.r2.lt, h.rT.below hb h.rT.lt, h.ln.kept hb, h.lm.kept hb, h.b.trans (hb.mono h.b.size), h.pw, h.n2, h.nT, h.n2T, h.b2, h.bT⟩
theorem KS.setT (h : KS w0 w p l e g2 gT C2 CT v V u P) (hN : NoB CT) {CT' : List Value} (hr : Row w' gT 25 CT') (hu : Upd w w' gT) : KS w0 w' p l e g2 gT C2 CT' v V u P :=
  ⟨h.rr.putM' h.nT h.rT hN hu, h.r2.upd hu h.n2T, hr, h.ln.upd hu (h.ln.own_neM h.rT (by decide)), h.lm.upd hu (h.lm.own_neM h.rT (by decide)), h.b.trans (hu.below h.bT), h.pw, h.n2, h.nT, h.n2T, h.b2, h.bT⟩
theorem KS.set2 (h : KS w0 w p l e g2 gT C2 CT v V u P) (hN : NoB C2) {C' : List Value} (hr : Row w' g2 25 C') (hu : Upd w w' g2) : KS w0 w' p l e g2 gT C' CT v V u P :=
  ⟨h.rr.putM' h.n2 h.r2 hN hu, hr, h.rT.upd hu h.n2T.symm, h.ln.upd hu (h.ln.own_neM h.r2 (by decide)), h.lm.upd hu (h.lm.own_neM h.r2 (by decide)), h.b.trans (hu.below h.b2), h.pw, h.n2, h.nT, h.n2T, h.b2, h.bT⟩
theorem KS.withV (h : KS w0 w p l e g2 gT C2 CT v V u P) {v' : Value} {V' : List Cv} (hN : LsN cvE w w0.heap.size v' V') : KS w0 w p l e g2 gT C2 CT v' V' u P :=
  ⟨h.rr, h.r2, h.rT, hN, h.lm, h.b, h.pw, h.n2, h.nT, h.n2T, h.b2, h.bT⟩
theorem KS.withP (h : KS w0 w p l e g2 gT C2 CT v V u P) {u' : Value} {P' : List Pc} (hN : LsN pcE w w0.heap.size u' P') : KS w0 w p l e g2 gT C2 CT v V u' P' :=
  ⟨h.rr, h.r2, h.rT, h.ln, hN, h.b, h.pw, h.n2, h.nT, h.n2T, h.b2, h.bT⟩
end
set_option maxRecDepth 100000 in
set_option maxHeartbeats 16000000 in
theorem zkdecode (ba : Option Addr) (bm bc : Nat) (b : List UInt8) (w : World) (h : Rd w ba bm bc b) (hm : bm ≤ 100000) :
    Calls Try.prog 17 #[.slice ba bm bc] w fun x w' => ∃ y : CmX, x = .returned (.tuple #[.agg y.cells.toArray, .int .i64 (decCm b).2]) ∧ y.m = (decCm b).1 ∧ y.fit w' ∧ Below w.heap.size w w' := by
  have HOP := Lib.hid (fun w' (hb : Below w.heap.size w w') => ropen ba bm bc b w' (h.mono hb) (by omega))
  have CZ := Lib.hid cm_size
  have CZZ := Lib.hid cm_zero
  have hlim := rdCm_lim b 0
  have hdec : decCm b = finCm (rdCm b 0) := rfl
  rw [hdec]
  have hrd : rdCm b 0 = rdCm b 0 := rfl
  conv at hrd => rhs; unfold rdCm
  obtain ⟨x0, l1, e1, hq0⟩ : ∃ x y z, numR 7 b 0 = (x, y, z) := ⟨_, _, _, rfl⟩
  simp only [hq0] at hrd
  obtain ⟨x1, l2, e2, hq1⟩ : ∃ x y z, numR 2147483648 l1 e1 = (x, y, z) := ⟨_, _, _, rfl⟩
  simp only [hq1] at hrd
  obtain ⟨x2, l3, e3, hq2⟩ : ∃ x y z, numR 14 l2 e2 = (x, y, z) := ⟨_, _, _, rfl⟩
  simp only [hq2] at hrd
  obtain ⟨x3, l4, e4, hq3⟩ : ∃ x y z, numR 2147483648 l3 e3 = (x, y, z) := ⟨_, _, _, rfl⟩
  simp only [hq3] at hrd
  obtain ⟨x4, l5, e5, hq4⟩ : ∃ x y z, numR 2147483648 l4 e4 = (x, y, z) := ⟨_, _, _, rfl⟩
  simp only [hq4] at hrd
  obtain ⟨x5, l6, e6, hq5⟩ : ∃ x y z, rdVL l5 e5 = (x, y, z) := ⟨_, _, _, rfl⟩
  simp only [hq5] at hrd
  obtain ⟨x6, l7, e7, hq6⟩ : ∃ x y z, textR 16 l6 e6 = (x, y, z) := ⟨_, _, _, rfl⟩
  simp only [hq6] at hrd
  obtain ⟨x7, l8, e8, hq7⟩ : ∃ x y z, textR 16 l7 e7 = (x, y, z) := ⟨_, _, _, rfl⟩
  simp only [hq7] at hrd
  obtain ⟨x8, l9, e9, hq8⟩ : ∃ x y z, numR 2147483648 l8 e8 = (x, y, z) := ⟨_, _, _, rfl⟩
  simp only [hq8] at hrd
  obtain ⟨x9, l10, e10, hq9⟩ : ∃ x y z, numR 1099511627776 l9 e9 = (x, y, z) := ⟨_, _, _, rfl⟩
  simp only [hq9] at hrd
  obtain ⟨x10, l11, e11, hq10⟩ : ∃ x y z, numR 1099511627776 l10 e10 = (x, y, z) := ⟨_, _, _, rfl⟩
  simp only [hq10] at hrd
  obtain ⟨x11, l12, e12, hq11⟩ : ∃ x y z, rdPL l11 e11 = (x, y, z) := ⟨_, _, _, rfl⟩
  simp only [hq11] at hrd
  rw [hrd] at hlim ⊢
  dsimp only at hlim
  clear h hrd hdec
  have Q0 := Lib.hid hq0
  have Q1 := Lib.hid hq1
  have Q2 := Lib.hid hq2
  have Q3 := Lib.hid hq3
  have Q4 := Lib.hid hq4
  have Q5 := Lib.hid hq5
  have Q6 := Lib.hid hq6
  have Q7 := Lib.hid hq7
  have Q8 := Lib.hid hq8
  have Q9 := Lib.hid hq9
  have Q10 := Lib.hid hq10
  have Q11 := Lib.hid hq11
  have HV := Lib.hid (fun p w' (hp : RR w' p l5 e5) => zallread p l5 e5 w' hp)
  have HPP := Lib.hid (fun p w' (hp : RR w' p l11 e11) => zreadps p l11 e11 w' hp)
  simp only [hq5] at HV
  simp only [hq11] at HPP
  have LIM := Lib.hid hlim
  obtain ⟨ok, hok⟩ : ∃ ok, Cm.ok ⟨(x0 : Int), (x1 : Int), (x2 : Int), (x3 : Int), (x4 : Int), x5, str x6, str x7, (x8 : Int), (x9 : Int), (x10 : Int), x11⟩ = ok := ⟨_, rfl⟩
  have HCK := Lib.hid (fun va vn vc pa pn pc w' (hf : CmX.fit w' ⟨⟨(x0 : Int), (x1 : Int), (x2 : Int), (x3 : Int), (x4 : Int), x5, str x6, str x7, (x8 : Int), (x9 : Int), (x10 : Int), x11⟩, va, vn, vc, pa, pn, pc⟩) => (by have q := zkcheck ⟨⟨(x0 : Int), (x1 : Int), (x2 : Int), (x3 : Int), (x4 : Int), x5, str x6, str x7, (x8 : Int), (x9 : Int), (x10 : Int), x11⟩, va, vn, vc, pa, pn, pc⟩ w' hf; unfold Cm.err at q; rw [hok] at q; exact q : Calls Try.prog 13 #[.agg (cmC (x0 : Int) (x1 : Int) (x2 : Int) (x3 : Int) (x4 : Int) va vn vc (str x6) (str x7) (x8 : Int) (x9 : Int) (x10 : Int) pa pn pc).toArray] w' fun e w'' => e = .returned (.int .i64 (if ok then 0 else 1)) ∧ Below w'.heap.size w' w''))
  unfold finCm
  dsimp only
  rw [hok]
  obtain ⟨M9, E9, hfin9⟩ : ∃ x y, finB ⟨(x0 : Int), (x1 : Int), (x2 : Int), (x3 : Int), (x4 : Int), x5, str x6, str x7, (x8 : Int), (x9 : Int), (x10 : Int), x11⟩ l12 e12 ok = (x, y) := ⟨_, _, rfl⟩
  rw [hfin9]
  dsimp only
  have HF9 := Lib.hid hfin9
  clear hlim hok hfin9 hq0 hq1 hq2 hq3 hq4 hq5 hq6 hq7 hq8 hq9 hq10 hq11
  go_enter Try.func17, Try.ntmps17
  go_wp2_with (first
    | ((with_reducible refine alloc_row (o := ⟨some 2, _, _, _, _, _⟩) rfl _ rfl _ CZZ.out ?_); intro w1 hr hb hz; have R1 := Lib.hid hr; have B1 := Lib.hid hb; clear hr hb hz)
    | (go_at_call 54; (with_reducible refine (HOP.out w1 B1.out).mono ?_); rintro x w2 ⟨p, rfl, hp1, hp2, hb⟩; have P2 := Lib.hid hp2; have PW := Lib.hid (Nat.le_trans B1.out.size hp1); have NP := Lib.hid (Ne.symm (Nat.ne_of_lt (Nat.lt_of_lt_of_le R1.out.lt hp1))); have R2 := Lib.hid (R1.out.below hb R1.out.lt); have B2 := Lib.hid (B1.out.trans (hb.mono B1.out.size)); clear hp1 hp2 hb)
    | (go_at_call 55; (with_reducible refine (rnumR p 7 b 0 w2 P2.out).mono ?_); rw [Q0.out]; rintro x w3 ⟨rfl, hP, hu⟩; have P3 := Lib.hid hP; have R3 := Lib.hid (R2.out.upd hu NP.out.symm); have B3 := Lib.hid (B2.out.trans (hu.below PW.out)); clear hP hu)
    | ((with_reducible refine build_row (o := ⟨some 11, _, _, _, _, _⟩) rfl _ _ rfl (cmC (x0 : Int) 0 0 0 0 none 0 0 ⟨#[]⟩ ⟨#[]⟩ 0 0 0 none 0 0) ?_ ?_); (focus (go_simp; exact zcm_built _)))
    | ((with_reducible refine alloc_row (o := ⟨some 5, _, _, _, _, _⟩) rfl _ rfl _ CZZ.out ?_); intro w4 hr hb hz; have Y4 := Lib.hid (show KS w w4 p l1 e1 w.heap.size w3.heap.size (cmC 0 0 0 0 0 none 0 0 ⟨#[]⟩ ⟨#[]⟩ 0 0 0 none 0 0) (cmC 0 0 0 0 0 none 0 0 ⟨#[]⟩ ⟨#[]⟩ 0 0 0 none 0 0) (.slice none 0 0) [] (.slice none 0 0) [] from ⟨P3.out.mono hb, R3.out.below hb R3.out.lt, hr, LsN.nil _ _, LsN.nil _ _, B3.out.trans (hb.mono B3.out.size), PW.out, NP.out, Nat.ne_of_lt P3.out.lt, Nat.ne_of_lt R3.out.lt, Nat.le_refl _, B3.out.size⟩); clear hr hb hz)
    | ((with_reducible refine store_row (o := ⟨none, _, _, _, _, _⟩) rfl _ (.tmp 5) _ rfl w3.heap.size (cmC (x0 : Int) 0 0 0 0 none 0 0 ⟨#[]⟩ ⟨#[]⟩ 0 0 0 none 0 0) ?_ ?_ 25 _ Y4.out.rT ?_ ?_ ?_ ?_); (focus go_simp); (focus (first | (go_simp; done) | (go_simp; rfl))); (focus (exact CZ.out)); (focus rfl); (focus (exact cm_one _ _ _ _ _ _ _ _ _ _ _ _ _ _ _ _)); intro w5 hr hu; have Y5 := Lib.hid (Y4.out.setT (nob_cm _ _ _ _ _ _ _ _ _ _ _ _ _ _ _ _) hr hu); clear hr hu)
    | (go_at_call 55; (with_reducible refine (rnumR p 2147483648 l1 e1 w5 Y5.out.rr).mono ?_); rw [Q1.out]; rintro x w6 ⟨rfl, hP, hu⟩; have Y6 := Lib.hid (Y5.out.rd hP (Gw.upd hu)); clear hP hu)
    | ((with_reducible refine store_cell (o := ⟨none, _, _, _, _, _⟩) rfl _ (.tmp 14) _ rfl w3.heap.size 1 (.int .i64 (x1 : Int)) ?_ ?_ rfl rfl 25 _ Y6.out.rT ?_ ?_ ?_); (focus go_simp); (focus (go_simp; first | done | rfl)); (focus (kernel_rfl)); (focus (show 1 < 12; decide)); intro w7 hr hu; have Y7 := Lib.hid (Y6.out.setT (nob_cm _ _ _ _ _ _ _ _ _ _ _ _ _ _ _ _) (show Row w7 w3.heap.size 25 (cmC (x0 : Int) (x1 : Int) 0 0 0 none 0 0 ⟨#[]⟩ ⟨#[]⟩ 0 0 0 none 0 0) from hr) hu); clear hr hu)
    | (go_at_call 55; (with_reducible refine (rnumR p 14 l2 e2 w7 Y7.out.rr).mono ?_); rw [Q2.out]; rintro x w8 ⟨rfl, hP, hu⟩; have Y8 := Lib.hid (Y7.out.rd hP (Gw.upd hu)); clear hP hu)
    | ((with_reducible refine store_cell (o := ⟨none, _, _, _, _, _⟩) rfl _ (.tmp 17) _ rfl w3.heap.size 2 (.int .i64 (x2 : Int)) ?_ ?_ rfl rfl 25 _ Y8.out.rT ?_ ?_ ?_); (focus go_simp); (focus (go_simp; first | done | rfl)); (focus (kernel_rfl)); (focus (show 2 < 12; decide)); intro w9 hr hu; have Y9 := Lib.hid (Y8.out.setT (nob_cm _ _ _ _ _ _ _ _ _ _ _ _ _ _ _ _) (show Row w9 w3.heap.size 25 (cmC (x0 : Int) (x1 : Int) (x2 : Int) 0 0 none 0 0 ⟨#[]⟩ ⟨#[]⟩ 0 0 0 none 0 0) from hr) hu); clear hr hu)
    | (go_at_call 55; (with_reducible refine (rnumR p 2147483648 l3 e3 w9 Y9.out.rr).mono ?_); rw [Q3.out]; rintro x w10 ⟨rfl, hP, hu⟩; have Y10 := Lib.hid (Y9.out.rd hP (Gw.upd hu)); clear hP hu)
    | ((with_reducible refine store_cell (o := ⟨none, _, _, _, _, _⟩) rfl _ (.tmp 20) _ rfl w3.heap.size 3 (.int .i64 (x3 : Int)) ?_ ?_ rfl rfl 25 _ Y10.out.rT ?_ ?_ ?_); (focus go_simp); (focus (go_simp; first | done | rfl)); (focus (kernel_rfl)); (focus (show 3 < 12; decide)); intro w11 hr hu; have Y11 := Lib.hid (Y10.out.setT (nob_cm _ _ _ _ _ _ _ _ _ _ _ _ _ _ _ _) (show Row w11 w3.heap.size 25 (cmC (x0 : Int) (x1 : Int) (x2 : Int) (x3 : Int) 0 none 0 0 ⟨#[]⟩ ⟨#[]⟩ 0 0 0 none 0 0) from hr) hu); clear hr hu)
    | (go_at_call 55; (with_reducible refine (rnumR p 2147483648 l4 e4 w11 Y11.out.rr).mono ?_); rw [Q4.out]; rintro x w12 ⟨rfl, hP, hu⟩; have Y12 := Lib.hid (Y11.out.rd hP (Gw.upd hu)); clear hP hu)
    | ((with_reducible refine store_cell (o := ⟨none, _, _, _, _, _⟩) rfl _ (.tmp 23) _ rfl w3.heap.size 4 (.int .i64 (x4 : Int)) ?_ ?_ rfl rfl 25 _ Y12.out.rT ?_ ?_ ?_); (focus go_simp); (focus (go_simp; first | done | rfl)); (focus (kernel_rfl)); (focus (show 4 < 12; decide)); intro w13 hr hu; have Y13 := Lib.hid (Y12.out.setT (nob_cm _ _ _ _ _ _ _ _ _ _ _ _ _ _ _ _) (show Row w13 w3.heap.size 25 (cmC (x0 : Int) (x1 : Int) (x2 : Int) (x3 : Int) (x4 : Int) none 0 0 ⟨#[]⟩ ⟨#[]⟩ 0 0 0 none 0 0) from hr) hu); clear hr hu)
    | (go_at_call 56; (with_reducible refine (HV.out p w13 Y13.out.rr).mono ?_); rintro x w14 ⟨va, vn, vc, rfl, hl, hN, hP, hg⟩; have VL := Lib.hid hl; have Y14 := Lib.hid ((Y13.out.rd hP hg).withV (hN.base Y13.out.b.size)); clear hl hN hP hg)
    | ((with_reducible refine store_cell (o := ⟨none, _, _, _, _, _⟩) rfl _ (.tmp 26) _ rfl w3.heap.size 5 (.slice va vn vc) ?_ ?_ rfl rfl 25 _ Y14.out.rT ?_ ?_ ?_); (focus go_simp); (focus (go_simp; first | done | rfl)); (focus (kernel_rfl)); (focus (show 5 < 12; decide)); intro w15 hr hu; have Y15 := Lib.hid (Y14.out.setT (nob_cm _ _ _ _ _ _ _ _ _ _ _ _ _ _ _ _) (show Row w15 w3.heap.size 25 (cmC (x0 : Int) (x1 : Int) (x2 : Int) (x3 : Int) (x4 : Int) va vn vc ⟨#[]⟩ ⟨#[]⟩ 0 0 0 none 0 0) from hr) hu); clear hr hu)
    | (go_at_call 57; (with_reducible refine (rtextR p 16 l6 e6 w15 Y15.out.rr).mono ?_); rw [Q6.out]; rintro x w16 ⟨rfl, hP, hu⟩; have Y16 := Lib.hid (Y15.out.rd hP (Gw.upd hu)); clear hP hu)
    | ((with_reducible refine store_cell (o := ⟨none, _, _, _, _, _⟩) rfl _ (.tmp 29) _ rfl w3.heap.size 6 (.string (str x6)) ?_ ?_ rfl rfl 25 _ Y16.out.rT ?_ ?_ ?_); (focus go_simp); (focus (go_simp; first | done | rfl)); (focus (kernel_rfl)); (focus (show 6 < 12; decide)); intro w17 hr hu; have Y17 := Lib.hid (Y16.out.setT (nob_cm _ _ _ _ _ _ _ _ _ _ _ _ _ _ _ _) (show Row w17 w3.heap.size 25 (cmC (x0 : Int) (x1 : Int) (x2 : Int) (x3 : Int) (x4 : Int) va vn vc (str x6) ⟨#[]⟩ 0 0 0 none 0 0) from hr) hu); clear hr hu)
    | (go_at_call 57; (with_reducible refine (rtextR p 16 l7 e7 w17 Y17.out.rr).mono ?_); rw [Q7.out]; rintro x w18 ⟨rfl, hP, hu⟩; have Y18 := Lib.hid (Y17.out.rd hP (Gw.upd hu)); clear hP hu)
    | ((with_reducible refine store_cell (o := ⟨none, _, _, _, _, _⟩) rfl _ (.tmp 32) _ rfl w3.heap.size 7 (.string (str x7)) ?_ ?_ rfl rfl 25 _ Y18.out.rT ?_ ?_ ?_); (focus go_simp); (focus (go_simp; first | done | rfl)); (focus (kernel_rfl)); (focus (show 7 < 12; decide)); intro w19 hr hu; have Y19 := Lib.hid (Y18.out.setT (nob_cm _ _ _ _ _ _ _ _ _ _ _ _ _ _ _ _) (show Row w19 w3.heap.size 25 (cmC (x0 : Int) (x1 : Int) (x2 : Int) (x3 : Int) (x4 : Int) va vn vc (str x6) (str x7) 0 0 0 none 0 0) from hr) hu); clear hr hu)
    | (go_at_call 55; (with_reducible refine (rnumR p 2147483648 l8 e8 w19 Y19.out.rr).mono ?_); rw [Q8.out]; rintro x w20 ⟨rfl, hP, hu⟩; have Y20 := Lib.hid (Y19.out.rd hP (Gw.upd hu)); clear hP hu)
    | ((with_reducible refine store_cell (o := ⟨none, _, _, _, _, _⟩) rfl _ (.tmp 35) _ rfl w3.heap.size 8 (.int .i64 (x8 : Int)) ?_ ?_ rfl rfl 25 _ Y20.out.rT ?_ ?_ ?_); (focus go_simp); (focus (go_simp; first | done | rfl)); (focus (kernel_rfl)); (focus (show 8 < 12; decide)); intro w21 hr hu; have Y21 := Lib.hid (Y20.out.setT (nob_cm _ _ _ _ _ _ _ _ _ _ _ _ _ _ _ _) (show Row w21 w3.heap.size 25 (cmC (x0 : Int) (x1 : Int) (x2 : Int) (x3 : Int) (x4 : Int) va vn vc (str x6) (str x7) (x8 : Int) 0 0 none 0 0) from hr) hu); clear hr hu)
    | (go_at_call 55; (with_reducible refine (rnumR p 1099511627776 l9 e9 w21 Y21.out.rr).mono ?_); rw [Q9.out]; rintro x w22 ⟨rfl, hP, hu⟩; have Y22 := Lib.hid (Y21.out.rd hP (Gw.upd hu)); clear hP hu)
    | ((with_reducible refine store_cell (o := ⟨none, _, _, _, _, _⟩) rfl _ (.tmp 38) _ rfl w3.heap.size 9 (.int .i64 (x9 : Int)) ?_ ?_ rfl rfl 25 _ Y22.out.rT ?_ ?_ ?_); (focus go_simp); (focus (go_simp; first | done | rfl)); (focus (kernel_rfl)); (focus (show 9 < 12; decide)); intro w23 hr hu; have Y23 := Lib.hid (Y22.out.setT (nob_cm _ _ _ _ _ _ _ _ _ _ _ _ _ _ _ _) (show Row w23 w3.heap.size 25 (cmC (x0 : Int) (x1 : Int) (x2 : Int) (x3 : Int) (x4 : Int) va vn vc (str x6) (str x7) (x8 : Int) (x9 : Int) 0 none 0 0) from hr) hu); clear hr hu)
    | (go_at_call 55; (with_reducible refine (rnumR p 1099511627776 l10 e10 w23 Y23.out.rr).mono ?_); rw [Q10.out]; rintro x w24 ⟨rfl, hP, hu⟩; have Y24 := Lib.hid (Y23.out.rd hP (Gw.upd hu)); clear hP hu)
    | ((with_reducible refine store_cell (o := ⟨none, _, _, _, _, _⟩) rfl _ (.tmp 41) _ rfl w3.heap.size 10 (.int .i64 (x10 : Int)) ?_ ?_ rfl rfl 25 _ Y24.out.rT ?_ ?_ ?_); (focus go_simp); (focus (go_simp; first | done | rfl)); (focus (kernel_rfl)); (focus (show 10 < 12; decide)); intro w25 hr hu; have Y25 := Lib.hid (Y24.out.setT (nob_cm _ _ _ _ _ _ _ _ _ _ _ _ _ _ _ _) (show Row w25 w3.heap.size 25 (cmC (x0 : Int) (x1 : Int) (x2 : Int) (x3 : Int) (x4 : Int) va vn vc (str x6) (str x7) (x8 : Int) (x9 : Int) (x10 : Int) none 0 0) from hr) hu); clear hr hu)
    | (go_at_call 58; (with_reducible refine (HPP.out p w25 Y25.out.rr).mono ?_); rintro x w26 ⟨pa, pn, pc, rfl, hl, hN, hP, hg⟩; have PL := Lib.hid hl; have Y26 := Lib.hid ((Y25.out.rd hP hg).withP (hN.base Y25.out.b.size)); clear hl hN hP hg)
    | ((with_reducible refine store_cell (o := ⟨none, _, _, _, _, _⟩) rfl _ (.tmp 44) _ rfl w3.heap.size 11 (.slice pa pn pc) ?_ ?_ rfl rfl 25 _ Y26.out.rT ?_ ?_ ?_); (focus go_simp); (focus (go_simp; first | done | rfl)); (focus (kernel_rfl)); (focus (show 11 < 12; decide)); intro w27 hr hu; have Y27 := Lib.hid (Y26.out.setT (nob_cm _ _ _ _ _ _ _ _ _ _ _ _ _ _ _ _) (show Row w27 w3.heap.size 25 (cmC (x0 : Int) (x1 : Int) (x2 : Int) (x3 : Int) (x4 : Int) va vn vc (str x6) (str x7) (x8 : Int) (x9 : Int) (x10 : Int) pa pn pc) from hr) hu); clear hr hu))
  have F0 := Lib.hid (lim_fit (y := ⟨⟨(x0 : Int), (x1 : Int), (x2 : Int), (x3 : Int), (x4 : Int), x5, str x6, str x7, (x8 : Int), (x9 : Int), (x10 : Int), x11⟩, va, vn, vc, pa, pn, pc⟩) LIM.out VL.out PL.out Y27.out.ln Y27.out.lm)
  by_cases he : e12 = 0
  · subst he
    cases ok
    · have HCK2 := Lib.hid (fun w' hf => show Calls Try.prog 13 #[.agg (cmC (x0 : Int) (x1 : Int) (x2 : Int) (x3 : Int) (x4 : Int) va vn vc (str x6) (str x7) (x8 : Int) (x9 : Int) (x10 : Int) pa pn pc).toArray] w' fun e w'' => e = .returned (.int .i64 1) ∧ Below w'.heap.size w' w'' from HCK.out va vn vc pa pn pc w' hf)
      have hfin : finB ⟨(x0 : Int), (x1 : Int), (x2 : Int), (x3 : Int), (x4 : Int), x5, str x6, str x7, (x8 : Int), (x9 : Int), (x10 : Int), x11⟩ l12 0 false = (cmZ, 3) := by
        unfold finB failL failE endV
        simp
      obtain ⟨rfl, rfl⟩ := Prod.mk.inj (hfin.symm.trans HF9.out)
      clear HF9
      have HEV := Lib.hid (show endV [] 3 = 3 from rfl)
      clear HCK hfin
      go_wp2_with (first
        | (go_at_call 59; (with_reducible refine (rerr p l12 0 w27 Y27.out.rr).mono ?_); rintro x w' ⟨rfl, rfl⟩)
        | ((with_reducible refine load_rowg (o := ⟨some 49, _, _, _, _, _⟩) 3 true 48 rfl _ _ rfl w3.heap.size _ (cmC (x0 : Int) (x1 : Int) (x2 : Int) (x3 : Int) (x4 : Int) va vn vc (str x6) (str x7) (x8 : Int) (x9 : Int) (x10 : Int) pa pn pc) _ Y27.out.rT Try.underlying25 rfl ?_ ?_ ?_ ?_ ?_); (focus rfl); (focus (first | (go_simp; done) | (go_simp; rfl))); (focus (first | (go_simp; done) | (go_simp; rfl))); (focus (exact CZ.out)))
        | (go_at_call 13; (with_reducible refine (HCK2.out w27 F0.out).mono ?_); rintro x w40 ⟨rfl, hb⟩; have Y40 := Lib.hid (Y27.out.grow hb); clear hb)
        | (go_at_call 60; (with_reducible refine (rfail p l12 0 3 w40 Y40.out.rr).mono ?_); rintro x w41 ⟨rfl, hP, hu⟩; have Y41 := Lib.hid (Y40.out.rd (show RR w41 p [] 3 from hP) (Gw.upd hu)); clear hP hu)
        | (go_at_call 61; (with_reducible refine (rend p [] 3 w41 Y41.out.rr).mono ?_); rw [HEV.out]; rintro x w' ⟨rfl, rfl⟩)
        | ((with_reducible refine build_row (o := ⟨some 59, _, _, _, _, _⟩) rfl _ _ rfl (cmC 0 0 0 0 0 none 0 0 ⟨#[]⟩ ⟨#[]⟩ 0 0 0 none 0 0) ?_ ?_); (focus (go_simp; exact cm_built0)))
        | ((with_reducible refine store_row (o := ⟨none, _, _, _, _, _⟩) rfl _ (.tmp 2) _ rfl w.heap.size (cmC 0 0 0 0 0 none 0 0 ⟨#[]⟩ ⟨#[]⟩ 0 0 0 none 0 0) ?_ ?_ 25 _ Y41.out.r2 ?_ ?_ ?_ ?_); (focus go_simp); (focus (first | (go_simp; done) | (go_simp; rfl))); (focus (exact CZ.out)); (focus rfl); (focus (exact cm_one _ _ _ _ _ _ _ _ _ _ _ _ _ _ _ _)); intro w50 hr hu; have Y50 := Lib.hid (Y41.out.set2 (nob_cm _ _ _ _ _ _ _ _ _ _ _ _ _ _ _ _) hr hu); clear hr hu))
      exact bodyPost_ret (results_row_tmp rfl _ _ w.heap.size 25 _ _ _ (by go_simp) Y50.out.r2 Try.underlying25 rfl CZ.out) rfl ⟨cmZX, rfl, rfl, cmZX_fit _, Y50.out.b⟩
    · have HCK2 := Lib.hid (fun w' hf => show Calls Try.prog 13 #[.agg (cmC (x0 : Int) (x1 : Int) (x2 : Int) (x3 : Int) (x4 : Int) va vn vc (str x6) (str x7) (x8 : Int) (x9 : Int) (x10 : Int) pa pn pc).toArray] w' fun e w'' => e = .returned (.int .i64 0) ∧ Below w'.heap.size w' w'' from HCK.out va vn vc pa pn pc w' hf)
      have hf9 := HF9.out
      unfold finB at hf9
      rw [if_pos rfl] at hf9
      obtain ⟨E, hE⟩ : ∃ E, endV l12 0 = E := ⟨_, rfl⟩
      rw [hE] at hf9
      clear HF9
      have HEV := Lib.hid hE
      clear HCK hE
      by_cases hne : E = 0
      · subst hne
        rw [if_pos rfl] at hf9
        obtain ⟨rfl, rfl⟩ := Prod.mk.inj hf9
        clear hf9
        go_wp2_with (first
          | (go_at_call 59; (with_reducible refine (rerr p l12 0 w27 Y27.out.rr).mono ?_); rintro x w' ⟨rfl, rfl⟩)
          | ((with_reducible refine load_rowg (o := ⟨some 49, _, _, _, _, _⟩) 3 true 48 rfl _ _ rfl w3.heap.size _ (cmC (x0 : Int) (x1 : Int) (x2 : Int) (x3 : Int) (x4 : Int) va vn vc (str x6) (str x7) (x8 : Int) (x9 : Int) (x10 : Int) pa pn pc) _ Y27.out.rT Try.underlying25 rfl ?_ ?_ ?_ ?_ ?_); (focus rfl); (focus (first | (go_simp; done) | (go_simp; rfl))); (focus (first | (go_simp; done) | (go_simp; rfl))); (focus (exact CZ.out)))
          | (go_at_call 13; (with_reducible refine (HCK2.out w27 F0.out).mono ?_); rintro x w40 ⟨rfl, hb⟩; have Y40 := Lib.hid (Y27.out.grow hb); clear hb)
          | (go_at_call 61; (with_reducible refine (rend p l12 0 w40 Y40.out.rr).mono ?_); rw [HEV.out]; rintro x w' ⟨rfl, rfl⟩)
          | ((with_reducible refine load_row (o := ⟨some 61, _, _, _, _, _⟩) rfl _ _ rfl w3.heap.size ?_ _ (cmC (x0 : Int) (x1 : Int) (x2 : Int) (x3 : Int) (x4 : Int) va vn vc (str x6) (str x7) (x8 : Int) (x9 : Int) (x10 : Int) pa pn pc) _ Y40.out.rT Try.underlying25 rfl ?_ ?_); (focus go_simp); (focus (exact CZ.out)))
          | ((with_reducible refine store_row (o := ⟨none, _, _, _, _, _⟩) rfl _ (.tmp 2) _ rfl w.heap.size (cmC (x0 : Int) (x1 : Int) (x2 : Int) (x3 : Int) (x4 : Int) va vn vc (str x6) (str x7) (x8 : Int) (x9 : Int) (x10 : Int) pa pn pc) ?_ ?_ 25 _ Y40.out.r2 ?_ ?_ ?_ ?_); (focus go_simp); (focus (first | (go_simp; done) | (go_simp; rfl))); (focus (exact CZ.out)); (focus rfl); (focus (exact cm_one _ _ _ _ _ _ _ _ _ _ _ _ _ _ _ _)); intro w50 hr hu; have Y50 := Lib.hid (Y40.out.set2 (nob_cm _ _ _ _ _ _ _ _ _ _ _ _ _ _ _ _) hr hu); clear hr hu))
        have F9 := Lib.hid (lim_fit (y := ⟨⟨(x0 : Int), (x1 : Int), (x2 : Int), (x3 : Int), (x4 : Int), x5, str x6, str x7, (x8 : Int), (x9 : Int), (x10 : Int), x11⟩, va, vn, vc, pa, pn, pc⟩) LIM.out VL.out PL.out Y50.out.ln Y50.out.lm)
        exact bodyPost_ret (results_row_tmp rfl _ _ w.heap.size 25 _ _ _ (by go_simp) Y50.out.r2 Try.underlying25 rfl CZ.out) rfl ⟨⟨⟨(x0 : Int), (x1 : Int), (x2 : Int), (x3 : Int), (x4 : Int), x5, str x6, str x7, (x8 : Int), (x9 : Int), (x10 : Int), x11⟩, va, vn, vc, pa, pn, pc⟩, rfl, rfl, F9.out, Y50.out.b⟩
      · rw [if_neg hne] at hf9
        obtain ⟨rfl, rfl⟩ := Prod.mk.inj hf9
        clear hf9
        have b1 : (E != 0) = true := by simpa using hne
        have b2 : (E == 0) = false := by simpa using hne
        go_wp2_with (first
          | (go_at_call 59; (with_reducible refine (rerr p l12 0 w27 Y27.out.rr).mono ?_); rintro x w' ⟨rfl, rfl⟩)
          | ((with_reducible refine load_rowg (o := ⟨some 49, _, _, _, _, _⟩) 3 true 48 rfl _ _ rfl w3.heap.size _ (cmC (x0 : Int) (x1 : Int) (x2 : Int) (x3 : Int) (x4 : Int) va vn vc (str x6) (str x7) (x8 : Int) (x9 : Int) (x10 : Int) pa pn pc) _ Y27.out.rT Try.underlying25 rfl ?_ ?_ ?_ ?_ ?_); (focus rfl); (focus (first | (go_simp; done) | (go_simp; rfl))); (focus (first | (go_simp; done) | (go_simp; rfl))); (focus (exact CZ.out)))
          | (go_at_call 13; (with_reducible refine (HCK2.out w27 F0.out).mono ?_); rintro x w40 ⟨rfl, hb⟩; have Y40 := Lib.hid (Y27.out.grow hb); clear hb)
          | (go_at_call 61; (with_reducible refine (rend p l12 0 w40 Y40.out.rr).mono ?_); rw [HEV.out]; rintro x w' ⟨rfl, rfl⟩)
          | ((with_reducible refine build_row (o := ⟨some 59, _, _, _, _, _⟩) rfl _ _ rfl (cmC 0 0 0 0 0 none 0 0 ⟨#[]⟩ ⟨#[]⟩ 0 0 0 none 0 0) ?_ ?_); (focus (go_simp; exact cm_built0)))
          | ((with_reducible refine store_row (o := ⟨none, _, _, _, _, _⟩) rfl _ (.tmp 2) _ rfl w.heap.size (cmC 0 0 0 0 0 none 0 0 ⟨#[]⟩ ⟨#[]⟩ 0 0 0 none 0 0) ?_ ?_ 25 _ Y40.out.r2 ?_ ?_ ?_ ?_); (focus go_simp); (focus (first | (go_simp; done) | (go_simp; rfl))); (focus (exact CZ.out)); (focus rfl); (focus (exact cm_one _ _ _ _ _ _ _ _ _ _ _ _ _ _ _ _)); intro w50 hr hu; have Y50 := Lib.hid (Y40.out.set2 (nob_cm _ _ _ _ _ _ _ _ _ _ _ _ _ _ _ _) hr hu); clear hr hu))
        exact bodyPost_ret (results_row_tmp rfl _ _ w.heap.size 25 _ _ _ (by go_simp) Y50.out.r2 Try.underlying25 rfl CZ.out) rfl ⟨cmZX, rfl, rfl, cmZX_fit _, Y50.out.b⟩
  · have hq2 : (e12 == 0) = false := by simpa using he
    have hfin : finB ⟨(x0 : Int), (x1 : Int), (x2 : Int), (x3 : Int), (x4 : Int), x5, str x6, str x7, (x8 : Int), (x9 : Int), (x10 : Int), x11⟩ l12 e12 ok = (cmZ, e12) := by
      have h1 : endV l12 e12 = e12 := by unfold endV; rw [if_pos he]
      have h2 : failE e12 3 = e12 := by unfold failE; rw [if_pos (.inl he)]
      have h3 : ∀ l, endV l e12 = e12 := fun l => by unfold endV; rw [if_pos he]
      unfold finB
      rw [h2, h1, h3, if_neg he]
      split <;> rfl
    obtain ⟨rfl, rfl⟩ := Prod.mk.inj (hfin.symm.trans HF9.out)
    clear HF9
    have hE : endV l12 e12 = e12 := by unfold endV; rw [if_pos he]
    have HEV := Lib.hid hE
    clear hE hfin
    have b1 : (e12 != 0) = true := by simpa using he
    go_wp2_with (first
      | (go_at_call 59; (with_reducible refine (rerr p l12 e12 w27 Y27.out.rr).mono ?_); rintro x w' ⟨rfl, rfl⟩)
      | (go_at_call 61; (with_reducible refine (rend p l12 e12 w27 Y27.out.rr).mono ?_); rw [HEV.out]; rintro x w' ⟨rfl, rfl⟩)
      | ((with_reducible refine build_row (o := ⟨some 59, _, _, _, _, _⟩) rfl _ _ rfl (cmC 0 0 0 0 0 none 0 0 ⟨#[]⟩ ⟨#[]⟩ 0 0 0 none 0 0) ?_ ?_); (focus (go_simp; exact cm_built0)))
      | ((with_reducible refine store_row (o := ⟨none, _, _, _, _, _⟩) rfl _ (.tmp 2) _ rfl w.heap.size (cmC 0 0 0 0 0 none 0 0 ⟨#[]⟩ ⟨#[]⟩ 0 0 0 none 0 0) ?_ ?_ 25 _ Y27.out.r2 ?_ ?_ ?_ ?_); (focus go_simp); (focus (first | (go_simp; done) | (go_simp; rfl))); (focus (exact CZ.out)); (focus rfl); (focus (exact cm_one _ _ _ _ _ _ _ _ _ _ _ _ _ _ _ _)); intro w50 hr hu; have Y50 := Lib.hid (Y27.out.set2 (nob_cm _ _ _ _ _ _ _ _ _ _ _ _ _ _ _ _) hr hu); clear hr hu))
    exact bodyPost_ret (results_row_tmp rfl _ _ w.heap.size 25 _ _ _ (by go_simp) Y50.out.r2 Try.underlying25 rfl CZ.out) rfl ⟨cmZX, rfl, rfl, cmZX_fit _, Y50.out.b⟩
end Go.Proofs.Ytmacjpgeamlmhaa.W

namespace Go.Proofs.Ytmacjpgeamlmhaa.W
open Go Go.ChangeShapes Go.WideShapes Go.ChangeAt Go.RowKit
open Go.Proofs.Ytmacjpgeamlmhaa.P (enc dec)
open Go.Proofs.Ytmacjpgeamlmhaa.S

theorem sameB_self (m : Cm) : sameB m m true = true := by unfold sameB; simp [same_refl]
set_option maxRecDepth 100000 in
set_option maxHeartbeats 32000000 in
theorem law_CommandCodes (x y : CmX) (ba : Option Addr) (bm bc : Nat) (zb : List Int) (w : World) (h : x.fit w) (h2 : y.fit w) (hbz : IsRow .u8 w ba bm bc zb) : Calls Try.prog 3 #[x.val, y.val, .slice ba bm bc] w fun e w' => e = .returned (.bool true) ∧ Below w.heap.size w w' := by
  have hb := Rd.of_row hbz
  obtain ⟨lb, hlb⟩ : ∃ l, ((zb.take bm).map fun n => UInt8.ofNat n.toNat) = l := ⟨_, rfl⟩
  rw [hlb] at hb
  clear hlb hbz
  have HA := Lib.hid (fun w => awake23 w)
  have HF := Lib.hid (fun w' (hb : Below w.heap.size w w') => few23 x w' (h.mono hb))
  have HG := Lib.hid (fun w' (hb : Below w.heap.size w w') => few23 y w' (h2.mono hb))
  obtain ⟨F, hF⟩ : ∃ F, fewCm x.m = F := ⟨_, rfl⟩
  obtain ⟨G, hG⟩ : ∃ G, fewCm y.m = G := ⟨_, rfl⟩
  rw [hF] at HF
  rw [hG] at HG
  have hmx := hb.hmax
  have hle := hb.hle
  have CZ := Lib.hid cm_size
  have CZZ := Lib.hid cm_zero
  have HE1 := Lib.hid (fun w' (hb : Below w.heap.size w w') => cmencode x w' (h.mono hb))
  have HE2 := Lib.hid (fun w' (hb : Below w.heap.size w w') => zkencode x w' (h.mono hb))
  have HC1 := Lib.hid (fun w' (hb : Below w.heap.size w w') => cmcheck x w' (h.mono hb))
  have HC2 := Lib.hid (fun w' (hb : Below w.heap.size w w') => zkcheck x w' (h.mono hb))
  obtain ⟨vp, hvp⟩ : ∃ b : Bool, (b = true ↔ x.m.P = y.m.P) := by
    by_cases hq : x.m.P = y.m.P
    · exact ⟨true, by simp [hq]⟩
    · exact ⟨false, by simp [hq]⟩
  have HS1 := Lib.hid (fun w' (hb : Below w.heap.size w w') => cmsame x y vp w' (h.mono hb) (h2.mono hb) hvp)
  have HS2 := Lib.hid (fun w' (hb : Below w.heap.size w w') => zksame x y vp w' (h.mono hb) (h2.mono hb) hvp)
  obtain ⟨SB, hSB⟩ : ∃ b, sameB x.m y.m vp = b := ⟨_, rfl⟩
  rw [hSB] at HS1 HS2
  obtain ⟨er, her⟩ : ∃ e, x.m.err = e := ⟨_, rfl⟩
  obtain ⟨LC, hLC⟩ : ∃ l, (if x.m.ok then codeCm x.m else []) = l := ⟨_, rfl⟩
  simp only [her, hLC] at HE1 HE2 HC1 HC2
  have HD1 := Lib.hid (fun (hbm : bm ≤ 2000) w' (hb' : Below w.heap.size w w') => cmdecode ba bm bc lb w' (hb.mono hb') (by omega))
  have HD2 := Lib.hid (fun (hbm : bm ≤ 2000) w' (hb' : Below w.heap.size w w') => zkdecode ba bm bc lb w' (hb.mono hb') (by omega))
  obtain ⟨MB, eb, hdb⟩ : ∃ a b, decCm lb = (a, b) := ⟨_, _, rfl⟩
  simp only [hdb] at HD1 HD2
  have HSY := Lib.hid (fun (Y Z : CmX) w' (hY : Y.fit w') (hZ : Z.fit w') (h1 : Y.m = MB) (h2 : Z.m = MB) => (by have q := zksame Y Z true w' hY hZ (by rw [h1, h2]; simp); rw [h1, h2, sameB_self] at q; exact q : Calls Try.prog 15 #[.agg Y.cells.toArray, .agg Z.cells.toArray] w' fun e w'' => e = .returned (.bool true) ∧ Below w'.heap.size w' w''))
  obtain ⟨⟨cl, sq, kd, id, ep, V, sp, nm, nu, by1, ti, PL⟩, va, vn, vc, pa, pn, pc⟩ := x
  obtain ⟨⟨cl2, sq2, kd2, id2, ep2, V2, sp2, nm2, nu2, by2, ti2, PL2⟩, va2, vn2, vc2, pa2, pn2, pc2⟩ := y
  clear h h2 hb hF hG hvp hSB her hLC hdb
  cases F
  case false =>
    go_enter Try.func3, Try.ntmps3
    go_wp2_with (first
      | ((with_reducible refine box_row (o := ⟨some 3, _, _, _, _, _⟩) rfl _ _ rfl (cmC cl sq kd id ep va vn vc sp nm nu by1 ti pa pn pc) rfl ?_); intro w0 hr hb hz; have X0 := Lib.hid hr; have B0 := Lib.hid hb; clear hr hb hz)
      | ((with_reducible refine box_row (o := ⟨some 4, _, _, _, _, _⟩) rfl _ _ rfl (cmC cl2 sq2 kd2 id2 ep2 va2 vn2 vc2 sp2 nm2 nu2 by2 ti2 pa2 pn2 pc2) rfl ?_); intro w1 hr hb hz; have Y1 := Lib.hid hr; have X1 := Lib.hid (X0.out.below hb X0.out.lt); have B1 := Lib.hid (B0.out.trans (hb.mono B0.out.size)); clear hr hb hz)
      | ((with_reducible refine load_row (o := ⟨some 15, _, _, _, _, _⟩) rfl _ _ rfl w.heap.size ?_ _ (cmC cl sq kd id ep va vn vc sp nm nu by1 ti pa pn pc) _ X1.out Try.underlying25 rfl ?_ ?_); (focus go_simp); (focus (exact CZ.out)))
      | (go_at_call 7; (with_reducible refine (HF.out w1 B1.out).mono ?_); rintro z w2 ⟨rfl, hb⟩; have X2 := Lib.hid (X1.out.below hb X1.out.lt); have Y2 := Lib.hid (Y1.out.below hb Y1.out.lt); have B2 := Lib.hid (B1.out.trans (hb.mono B1.out.size)); clear hb)
      | (go_at_call 8; (with_reducible refine (HA.out w2).mono ?_); rintro z w30 ⟨rfl, hb⟩; have B30 := Lib.hid (B2.out.trans (hb.mono B2.out.size)); clear hb))
    go_ret
    exact ⟨by first | rfl | exact one (vbool (by simp)), B30.out⟩
  cases G
  case false =>
    go_enter Try.func3, Try.ntmps3
    go_wp2_with (first
      | ((with_reducible refine box_row (o := ⟨some 3, _, _, _, _, _⟩) rfl _ _ rfl (cmC cl sq kd id ep va vn vc sp nm nu by1 ti pa pn pc) rfl ?_); intro w0 hr hb hz; have X0 := Lib.hid hr; have B0 := Lib.hid hb; clear hr hb hz)
      | ((with_reducible refine box_row (o := ⟨some 4, _, _, _, _, _⟩) rfl _ _ rfl (cmC cl2 sq2 kd2 id2 ep2 va2 vn2 vc2 sp2 nm2 nu2 by2 ti2 pa2 pn2 pc2) rfl ?_); intro w1 hr hb hz; have Y1 := Lib.hid hr; have X1 := Lib.hid (X0.out.below hb X0.out.lt); have B1 := Lib.hid (B0.out.trans (hb.mono B0.out.size)); clear hr hb hz)
      | ((with_reducible refine load_row (o := ⟨some 15, _, _, _, _, _⟩) rfl _ _ rfl w.heap.size ?_ _ (cmC cl sq kd id ep va vn vc sp nm nu by1 ti pa pn pc) _ X1.out Try.underlying25 rfl ?_ ?_); (focus go_simp); (focus (exact CZ.out)))
      | (go_at_call 7; (with_reducible refine (HF.out w1 B1.out).mono ?_); rintro z w2 ⟨rfl, hb⟩; have X2 := Lib.hid (X1.out.below hb X1.out.lt); have Y2 := Lib.hid (Y1.out.below hb Y1.out.lt); have B2 := Lib.hid (B1.out.trans (hb.mono B1.out.size)); clear hb)
      | ((with_reducible refine load_rowg (o := ⟨some 19, _, _, _, _, _⟩) 3 false 18 rfl _ _ rfl w0.heap.size _ (cmC cl2 sq2 kd2 id2 ep2 va2 vn2 vc2 sp2 nm2 nu2 by2 ti2 pa2 pn2 pc2) _ Y2.out Try.underlying25 rfl ?_ ?_ ?_ ?_ ?_); (focus rfl); (focus (first | (go_simp; done) | (go_simp; rfl))); (focus (first | (go_simp; done) | (go_simp; rfl))); (focus (exact CZ.out)))
      | (go_at_call 7; (with_reducible refine (HG.out w2 B2.out).mono ?_); rintro z w3 ⟨rfl, hb⟩; have X3 := Lib.hid (X2.out.below hb X2.out.lt); have Y3 := Lib.hid (Y2.out.below hb Y2.out.lt); have B3 := Lib.hid (B2.out.trans (hb.mono B2.out.size)); clear hb)
      | (go_at_call 8; (with_reducible refine (HA.out w3).mono ?_); rintro z w30 ⟨rfl, hb⟩; have B30 := Lib.hid (B3.out.trans (hb.mono B3.out.size)); clear hb))
    go_ret
    exact ⟨by first | rfl | exact one (vbool (by simp)), B30.out⟩
  by_cases hbm : bm ≤ 2000
  rotate_left
  · have g1 : (2000 : Int) < (bm : Int) := by omega
    go_enter Try.func3, Try.ntmps3
    go_wp2_with (first
      | ((with_reducible refine box_row (o := ⟨some 3, _, _, _, _, _⟩) rfl _ _ rfl (cmC cl sq kd id ep va vn vc sp nm nu by1 ti pa pn pc) rfl ?_); intro w0 hr hb hz; have X0 := Lib.hid hr; have B0 := Lib.hid hb; clear hr hb hz)
      | ((with_reducible refine box_row (o := ⟨some 4, _, _, _, _, _⟩) rfl _ _ rfl (cmC cl2 sq2 kd2 id2 ep2 va2 vn2 vc2 sp2 nm2 nu2 by2 ti2 pa2 pn2 pc2) rfl ?_); intro w1 hr hb hz; have Y1 := Lib.hid hr; have X1 := Lib.hid (X0.out.below hb X0.out.lt); have B1 := Lib.hid (B0.out.trans (hb.mono B0.out.size)); clear hr hb hz)
      | ((with_reducible refine load_row (o := ⟨some 15, _, _, _, _, _⟩) rfl _ _ rfl w.heap.size ?_ _ (cmC cl sq kd id ep va vn vc sp nm nu by1 ti pa pn pc) _ X1.out Try.underlying25 rfl ?_ ?_); (focus go_simp); (focus (exact CZ.out)))
      | (go_at_call 7; (with_reducible refine (HF.out w1 B1.out).mono ?_); rintro z w2 ⟨rfl, hb⟩; have X2 := Lib.hid (X1.out.below hb X1.out.lt); have Y2 := Lib.hid (Y1.out.below hb Y1.out.lt); have B2 := Lib.hid (B1.out.trans (hb.mono B1.out.size)); clear hb)
      | ((with_reducible refine load_rowg (o := ⟨some 19, _, _, _, _, _⟩) 3 false 18 rfl _ _ rfl w0.heap.size _ (cmC cl2 sq2 kd2 id2 ep2 va2 vn2 vc2 sp2 nm2 nu2 by2 ti2 pa2 pn2 pc2) _ Y2.out Try.underlying25 rfl ?_ ?_ ?_ ?_ ?_); (focus rfl); (focus (first | (go_simp; done) | (go_simp; rfl))); (focus (first | (go_simp; done) | (go_simp; rfl))); (focus (exact CZ.out)))
      | (go_at_call 7; (with_reducible refine (HG.out w2 B2.out).mono ?_); rintro z w3 ⟨rfl, hb⟩; have X3 := Lib.hid (X2.out.below hb X2.out.lt); have Y3 := Lib.hid (Y2.out.below hb Y2.out.lt); have B3 := Lib.hid (B2.out.trans (hb.mono B2.out.size)); clear hb)
      | (go_at_call 8; (with_reducible refine (HA.out w3).mono ?_); rintro z w30 ⟨rfl, hb⟩; have B30 := Lib.hid (B3.out.trans (hb.mono B3.out.size)); clear hb))
    go_ret
    exact ⟨by first | rfl | exact one (vbool (by simp)), B30.out⟩
  have g1 : ¬ (2000 : Int) < (bm : Int) := by omega
  have HD1 := Lib.hid (HD1.out hbm)
  have HD2 := Lib.hid (HD2.out hbm)
  go_enter Try.func3, Try.ntmps3
  go_wp2_with (first
    | ((with_reducible refine box_row (o := ⟨some 3, _, _, _, _, _⟩) rfl _ _ rfl (cmC cl sq kd id ep va vn vc sp nm nu by1 ti pa pn pc) rfl ?_); intro w0 hr hb hz; have X0 := Lib.hid hr; have B0 := Lib.hid hb; clear hr hb hz)
    | ((with_reducible refine box_row (o := ⟨some 4, _, _, _, _, _⟩) rfl _ _ rfl (cmC cl2 sq2 kd2 id2 ep2 va2 vn2 vc2 sp2 nm2 nu2 by2 ti2 pa2 pn2 pc2) rfl ?_); intro w1 hr hb hz; have Y1 := Lib.hid hr; have X1 := Lib.hid (X0.out.below hb X0.out.lt); have B1 := Lib.hid (B0.out.trans (hb.mono B0.out.size)); clear hr hb hz)
    | ((with_reducible refine load_row (o := ⟨some 15, _, _, _, _, _⟩) rfl _ _ rfl w.heap.size ?_ _ (cmC cl sq kd id ep va vn vc sp nm nu by1 ti pa pn pc) _ X1.out Try.underlying25 rfl ?_ ?_); (focus go_simp); (focus (exact CZ.out)))
    | (go_at_call 7; (with_reducible refine (HF.out w1 B1.out).mono ?_); rintro z w2 ⟨rfl, hb⟩; have X2 := Lib.hid (X1.out.below hb X1.out.lt); have Y2 := Lib.hid (Y1.out.below hb Y1.out.lt); have B2 := Lib.hid (B1.out.trans (hb.mono B1.out.size)); clear hb)
    | ((with_reducible refine load_rowg (o := ⟨some 19, _, _, _, _, _⟩) 3 false 18 rfl _ _ rfl w0.heap.size _ (cmC cl2 sq2 kd2 id2 ep2 va2 vn2 vc2 sp2 nm2 nu2 by2 ti2 pa2 pn2 pc2) _ Y2.out Try.underlying25 rfl ?_ ?_ ?_ ?_ ?_); (focus rfl); (focus (first | (go_simp; done) | (go_simp; rfl))); (focus (first | (go_simp; done) | (go_simp; rfl))); (focus (exact CZ.out)))
    | (go_at_call 7; (with_reducible refine (HG.out w2 B2.out).mono ?_); rintro z w3 ⟨rfl, hb⟩; have X3 := Lib.hid (X2.out.below hb X2.out.lt); have Y3 := Lib.hid (Y2.out.below hb Y2.out.lt); have B3 := Lib.hid (B2.out.trans (hb.mono B2.out.size)); clear hb)
    | ((with_reducible refine load_row (o := ⟨some 30, _, _, _, _, _⟩) rfl _ _ rfl w.heap.size ?_ _ (cmC cl sq kd id ep va vn vc sp nm nu by1 ti pa pn pc) _ X3.out Try.underlying25 rfl ?_ ?_); (focus go_simp); (focus (exact CZ.out)))
    | (go_at_call 9; (with_reducible refine (HE1.out w3 B3.out).mono ?_); rintro z w4 ⟨y4, m4, d4, rfl, hr, -, hb⟩; have R4 := Lib.hid hr; have X4 := Lib.hid (X3.out.below hb X3.out.lt); have Y4 := Lib.hid (Y3.out.below hb Y3.out.lt); have B4 := Lib.hid (B3.out.trans (hb.mono B3.out.size)); clear hr hb)
    | ((with_reducible refine load_row (o := ⟨some 35, _, _, _, _, _⟩) rfl _ _ rfl w.heap.size ?_ _ (cmC cl sq kd id ep va vn vc sp nm nu by1 ti pa pn pc) _ X4.out Try.underlying25 rfl ?_ ?_); (focus go_simp); (focus (exact CZ.out)))
    | (go_at_call 10; (with_reducible refine (HE2.out w4 B4.out).mono ?_); rintro z w5 ⟨y5, m5, d5, rfl, hr, -, hb⟩; have R5 := Lib.hid hr; have Q5 := Lib.hid (R4.out.mono hb); have X5 := Lib.hid (X4.out.below hb X4.out.lt); have Y5 := Lib.hid (Y4.out.below hb Y4.out.lt); have B5 := Lib.hid (B4.out.trans (hb.mono B4.out.size)); clear hr hb))
  refine region_h (fun v => Below w5.heap.size w5 v) (by kernel_rfl) (by kernel_rfl) (Below.refl _ _).drew ?_
  obtain ⟨e0, he0⟩ : ∃ wd, w5.drew = wd := ⟨_, rfl⟩
  have J0 : Hid (Below w5.heap.size w5 e0) := Lib.hid (by rw [← he0]; exact (Below.refl _ _).drew)
  rw [he0]
  clear he0
  (refine h_read 0 rfl (by kernel_rfl) (by kernel_rfl) (h_free rfl) ?_ ?_ ?_; rotate_left; (focus (intro v hv; go_simp; rfl)); go_simp)
  (refine h_read 1 rfl (by kernel_rfl) (by kernel_rfl) (h_free rfl) ?_ ?_ ?_; rotate_left; (focus (intro v hv; go_simp; rfl)); go_simp)
  (refine h_read 2 rfl (by kernel_rfl) (by kernel_rfl) (h_free rfl) ?_ ?_ ?_; rotate_left; (focus (intro v hv; go_simp; rfl)); go_simp)
  (refine h_read 3 rfl (by kernel_rfl) (by kernel_rfl) (h_free rfl) ?_ ?_ ?_; rotate_left; (focus (intro v hv; go_simp; rfl)); go_simp)
  (refine h_read 4 rfl (by kernel_rfl) (by kernel_rfl) ?_ ?_ ?_ ?_; (focus (go_simp; done)); rotate_left; (focus (intro v hv; go_simp; rfl)); go_simp)
  (refine h_read 5 rfl (by kernel_rfl) (by kernel_rfl) ?_ ?_ ?_ ?_; (focus (go_simp; done)); rotate_left; (focus (intro v hv; go_simp; rfl)); go_simp)
  (refine h_call 6 rfl (by kernel_rfl) ?_ 11 ?_ ?_ ?_; (focus (go_simp; done)); rotate_left; (focus (go_simp; rfl)))
  refine (sequal y4 y5 m4 m5 d4 d5 LC LC e0 (Q5.out.mono J0.out) (R5.out.mono J0.out)).mono ?_
  rw [decide_eq_true rfl]
  rintro z e1 ⟨rfl, hq⟩
  have J1 := Lib.hid (J0.out.trans ((hq.below e0.heap.size).mono J0.out.size))
  clear hq
  refine ⟨_, rfl, J1.out, ?_⟩
  go_simp
  (refine h_read 7 rfl (by kernel_rfl) (by kernel_rfl) ?_ ?_ ?_ ?_; (focus (go_simp; done)); rotate_left; (focus (intro v hv; go_simp; rfl)); go_simp)
  (refine h_read 8 rfl (by kernel_rfl) (by kernel_rfl) (h_free rfl) ?_ ?_ ?_; rotate_left; (focus (intro v hv; go_simp; rfl)); go_simp)
  (refine h_read 9 rfl (by kernel_rfl) (by kernel_rfl) (h_free rfl) ?_ ?_ ?_; rotate_left; (focus (intro v hv; go_simp; rfl)); go_simp)
  (refine h_read 10 rfl (by kernel_rfl) (by kernel_rfl) ?_ ?_ ?_ ?_; (focus (go_simp; done)); rotate_left; (focus (intro v hv; refine run_cells 25 (.tmp 3) ?_ w.heap.size 0 ?_ (cmC cl sq kd id ep va vn vc sp nm nu by1 ti pa pn pc) _ (fun j' u' hj => by rw [hv.cell (p := ⟨w.heap.size, 0 + j', none⟩) X5.out.lt, Nat.zero_add, X5.out.cellV]; exact hj) Try.underlying25 rfl cm_size; (focus rfl); go_simp)); go_simp)
  (refine h_read 12 rfl (by kernel_rfl) (by kernel_rfl) ?_ ?_ ?_ ?_; (focus (go_simp; done)); rotate_left; (focus (intro v hv; refine run_cells 25 (.tmp 3) ?_ w.heap.size 0 ?_ (cmC cl sq kd id ep va vn vc sp nm nu by1 ti pa pn pc) _ (fun j' u' hj => by rw [hv.cell (p := ⟨w.heap.size, 0 + j', none⟩) X5.out.lt, Nat.zero_add, X5.out.cellV]; exact hj) Try.underlying25 rfl cm_size; (focus rfl); go_simp)); go_simp)
  (refine h_call 11 rfl (by kernel_rfl) ?_ 12 ?_ ?_ ?_; (focus (go_simp; done)); rotate_left; (focus (go_simp; rfl)))
  refine (HC1.out e1 (B5.out.trans (J1.out.mono B5.out.size))).mono ?_
  rintro z e2 ⟨rfl, hb⟩
  have J2 := Lib.hid (J1.out.trans (hb.mono J1.out.size))
  clear hb
  refine ⟨_, rfl, J2.out, ?_⟩
  go_simp
  (refine h_call 13 rfl (by kernel_rfl) ?_ 13 ?_ ?_ ?_; (focus (go_simp; done)); rotate_left; (focus (go_simp; rfl)))
  refine (HC2.out e2 (B5.out.trans (J2.out.mono B5.out.size))).mono ?_
  rintro z e3 ⟨rfl, hb⟩
  have J3 := Lib.hid (J2.out.trans (hb.mono J2.out.size))
  clear hb
  refine ⟨_, rfl, J3.out, ?_⟩
  go_simp
  (refine h_read 14 rfl (by kernel_rfl) (by kernel_rfl) ?_ ?_ ?_ ?_; (focus (go_simp; done)); rotate_left; (focus (intro v hv; go_simp; rfl)); go_simp)
  (refine h_read 15 rfl (by kernel_rfl) (by kernel_rfl) (h_free rfl) ?_ ?_ ?_; rotate_left; (focus (intro v hv; go_simp; rfl)); go_simp)
  (refine h_read 16 rfl (by kernel_rfl) (by kernel_rfl) (h_free rfl) ?_ ?_ ?_; rotate_left; (focus (intro v hv; go_simp; rfl)); go_simp)
  (refine h_read 17 rfl (by kernel_rfl) (by kernel_rfl) ?_ ?_ ?_ ?_; (focus (go_simp; done)); rotate_left; (focus (intro v hv; refine run_cells 25 (.tmp 3) ?_ w.heap.size 0 ?_ (cmC cl sq kd id ep va vn vc sp nm nu by1 ti pa pn pc) _ (fun j' u' hj => by rw [hv.cell (p := ⟨w.heap.size, 0 + j', none⟩) X5.out.lt, Nat.zero_add, X5.out.cellV]; exact hj) Try.underlying25 rfl cm_size; (focus rfl); go_simp)); go_simp)
  (refine h_read 18 rfl (by kernel_rfl) (by kernel_rfl) ?_ ?_ ?_ ?_; (focus (go_simp; done)); rotate_left; (focus (intro v hv; refine run_cells 25 (.tmp 4) ?_ w0.heap.size 0 ?_ (cmC cl2 sq2 kd2 id2 ep2 va2 vn2 vc2 sp2 nm2 nu2 by2 ti2 pa2 pn2 pc2) _ (fun j' u' hj => by rw [hv.cell (p := ⟨w0.heap.size, 0 + j', none⟩) Y5.out.lt, Nat.zero_add, Y5.out.cellV]; exact hj) Try.underlying25 rfl cm_size; (focus rfl); go_simp)); go_simp)
  (refine h_read 20 rfl (by kernel_rfl) (by kernel_rfl) ?_ ?_ ?_ ?_; (focus (go_simp; done)); rotate_left; (focus (intro v hv; refine run_cells 25 (.tmp 3) ?_ w.heap.size 0 ?_ (cmC cl sq kd id ep va vn vc sp nm nu by1 ti pa pn pc) _ (fun j' u' hj => by rw [hv.cell (p := ⟨w.heap.size, 0 + j', none⟩) X5.out.lt, Nat.zero_add, X5.out.cellV]; exact hj) Try.underlying25 rfl cm_size; (focus rfl); go_simp)); go_simp)
  (refine h_read 21 rfl (by kernel_rfl) (by kernel_rfl) ?_ ?_ ?_ ?_; (focus (go_simp; done)); rotate_left; (focus (intro v hv; refine run_cells 25 (.tmp 4) ?_ w0.heap.size 0 ?_ (cmC cl2 sq2 kd2 id2 ep2 va2 vn2 vc2 sp2 nm2 nu2 by2 ti2 pa2 pn2 pc2) _ (fun j' u' hj => by rw [hv.cell (p := ⟨w0.heap.size, 0 + j', none⟩) Y5.out.lt, Nat.zero_add, Y5.out.cellV]; exact hj) Try.underlying25 rfl cm_size; (focus rfl); go_simp)); go_simp)
  (refine h_call 19 rfl (by kernel_rfl) ?_ 14 ?_ ?_ ?_; (focus (go_simp; done)); rotate_left; (focus (go_simp; rfl)))
  refine (HS1.out e3 (B5.out.trans (J3.out.mono B5.out.size))).mono ?_
  rintro z e4 ⟨rfl, hb⟩
  have J4 := Lib.hid (J3.out.trans (hb.mono J3.out.size))
  clear hb
  refine ⟨_, rfl, J4.out, ?_⟩
  go_simp
  (refine h_call 22 rfl (by kernel_rfl) ?_ 15 ?_ ?_ ?_; (focus (go_simp; done)); rotate_left; (focus (go_simp; rfl)))
  refine (HS2.out e4 (B5.out.trans (J4.out.mono B5.out.size))).mono ?_
  rintro z e5 ⟨rfl, hb⟩
  have J5 := Lib.hid (J4.out.trans (hb.mono J4.out.size))
  clear hb
  refine ⟨_, rfl, J5.out, ?_⟩
  go_simp
  (refine h_read 23 rfl (by kernel_rfl) (by kernel_rfl) ?_ ?_ ?_ ?_; (focus (go_simp; done)); rotate_left; (focus (intro v hv; go_simp; rfl)); go_simp)
  (refine h_read 24 rfl (by kernel_rfl) (by kernel_rfl) (h_free rfl) ?_ ?_ ?_; rotate_left; (focus (intro v hv; go_simp; rfl)); go_simp)
  refine h_done (by kernel_rfl) ?_
  have B6 := Lib.hid (B5.out.trans (J5.out.mono B5.out.size))
  go_wp2_with (first
    | (go_at_call 16; (with_reducible refine (HD1.out e5 B6.out).mono ?_); rintro z w7 ⟨Y, rfl, hy, hf, hb⟩; have FY7 := Lib.hid hf; have MY := Lib.hid hy; have B7 := Lib.hid (B6.out.trans (hb.mono B6.out.size)); clear hy hf hb)
    | ((with_reducible refine alloc_row (o := ⟨some 11, _, _, _, _, _⟩) rfl _ rfl _ CZZ.out ?_); intro w8 hr hb hz; have TY8 := Lib.hid hr; have V8 := Lib.hid hb; have B8 := Lib.hid (B7.out.trans (hb.mono B7.out.size)); clear hr hb hz)
    | ((with_reducible refine store_row (o := ⟨none, _, _, _, _, _⟩) rfl _ (.tmp 11) _ rfl w7.heap.size Y.cells ?_ ?_ 25 _ TY8.out ?_ ?_ ?_ ?_); (focus go_simp); (focus (first | (go_simp; done) | (go_simp; rfl))); (focus (exact CZ.out)); (focus rfl); (focus (exact cm_one _ _ _ _ _ _ _ _ _ _ _ _ _ _ _ _)); intro w9 hr hu; have TY9 := Lib.hid hr; have FY9 := Lib.hid (FY7.out.mono (V8.out.trans (hu.below (Nat.le_refl _)))); have B9 := Lib.hid (B8.out.trans (hu.below B7.out.size)); clear hr hu)
    | (go_at_call 17; (with_reducible refine (HD2.out w9 B9.out).mono ?_); rintro z w10 ⟨Z, rfl, hy, hf, hb⟩; have FZ10 := Lib.hid hf; have MZ := Lib.hid hy; have TY10 := Lib.hid (TY9.out.below hb TY9.out.lt); have FY10 := Lib.hid (FY9.out.mono hb); have B10 := Lib.hid (B9.out.trans (hb.mono B9.out.size)); clear hy hf hb)
    | ((with_reducible refine alloc_row (o := ⟨some 13, _, _, _, _, _⟩) rfl _ rfl _ CZZ.out ?_); intro w11 hr hb hz; have TZ11 := Lib.hid hr; have V11 := Lib.hid hb; have TY11 := Lib.hid (TY10.out.below hb TY10.out.lt); have FY11 := Lib.hid (FY10.out.mono hb); have NT := Lib.hid (Nat.ne_of_lt TY10.out.lt); have B11 := Lib.hid (B10.out.trans (hb.mono B10.out.size)); clear hr hb hz)
    | ((with_reducible refine store_row (o := ⟨none, _, _, _, _, _⟩) rfl _ (.tmp 13) _ rfl w10.heap.size Z.cells ?_ ?_ 25 _ TZ11.out ?_ ?_ ?_ ?_); (focus go_simp); (focus (first | (go_simp; done) | (go_simp; rfl))); (focus (exact CZ.out)); (focus rfl); (focus (exact cm_one _ _ _ _ _ _ _ _ _ _ _ _ _ _ _ _)); intro w12 hr hu; have TZ12 := Lib.hid hr; have FZ12 := Lib.hid (FZ10.out.mono (V11.out.trans (hu.below (Nat.le_refl _)))); have TY12 := Lib.hid (TY11.out.upd hu NT.out); have FY12 := Lib.hid (FY10.out.mono (V11.out.trans (hu.below (Nat.le_refl _)))); have B12 := Lib.hid (B11.out.trans (hu.below B10.out.size)); clear hr hu)
    | ((with_reducible refine load_rowg (o := ⟨some 78, _, _, _, _, _⟩) 3 true 77 rfl _ _ rfl w7.heap.size _ (Y.cells) _ TY12.out Try.underlying25 rfl ?_ ?_ ?_ ?_ ?_); (focus rfl); (focus (first | (go_simp; done) | (go_simp; rfl))); (focus (first | (go_simp; done) | (go_simp; rfl))); (focus (exact CZ.out)))
    | ((with_reducible refine load_rowg (o := ⟨some 79, _, _, _, _, _⟩) 3 true 77 rfl _ _ rfl w10.heap.size _ (Z.cells) _ TZ12.out Try.underlying25 rfl ?_ ?_ ?_ ?_ ?_); (focus rfl); (focus (first | (go_simp; done) | (go_simp; rfl))); (focus (first | (go_simp; done) | (go_simp; rfl))); (focus (exact CZ.out)))
    | (go_at_call 15; (with_reducible refine (HSY.out Y Z w12 FY12.out FZ12.out MY.out MZ.out).mono ?_); rintro z w13 ⟨rfl, hb⟩; have B13 := Lib.hid (B12.out.trans (hb.mono B12.out.size)); clear hb)
    | (go_at_call 8; (with_reducible refine (HA.out w13).mono ?_); rintro z w30 ⟨rfl, hb⟩; have B30 := Lib.hid (B13.out.trans (hb.mono B13.out.size)); clear hb))
  go_ret
  exact ⟨by first | rfl | exact one (vbool (by simp)), B30.out⟩
end Go.Proofs.Ytmacjpgeamlmhaa.W
