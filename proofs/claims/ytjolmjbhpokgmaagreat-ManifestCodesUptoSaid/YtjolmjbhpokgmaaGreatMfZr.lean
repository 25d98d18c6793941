/- LAYER 20 (manifest): snapshots: Read of the reference. LAYER 20 (manifest): snapshots: Same of both, of any lists. LAYER 20 (manifest): the law ManifestCodes, for texts that are not too long. -/
import Derived.Test.YtjolmjbhpokgmaaGreatMfPx
import Derived.Test.YtjolmjbhpokgmaaGreatMfAa
import Derived.Test.YtjolmjbhpokgmaaGreatMfAe
import Derived.Test.YtjolmjbhpokgmaaGreatMfPs
import Derived.Test.YtjolmjbhpokgmaaGreatMfFw
import Derived.Test.YtjolmjbhpokgmaaGreatTwo
import Derived.Test.YtjolmjbhpokgmaaGreatMfSm
import Derived.Test.YtjolmjbhpokgmaaGreatMfK
set_option linter.unusedSimpArgs false
set_option linter.unusedVariables false
namespace Go.Proofs.YtjolmjbhpokgmaaGreat.W
open Go Go.ChangeShapes Go.WideShapes Go.ChangeAt Go.RowKit
open Go.Proofs.YtjolmjbhpokgmaaGreat.P (enc dec)
open Go.Proofs.YtjolmjbhpokgmaaGreat.S

theorem rdPL_err {l : List UInt8} {e : Int} (h : e ≠ 0) : (rdPL l e).2 = (l, e) := by unfold rdPL; simp only [numR_err h]; rfl
theorem rdSn_err {l : List UInt8} {e : Int} (h : e ≠ 0) : (rdSn l e).2 = (l, e) := by
  have ht : ∀ m, textR m l e = ([], l, e) := fun m => by unfold textR; rw [numR_err h]; dsimp only; rw [if_pos h]
  unfold rdSn
  simp only [ht, numR_err h]
  exact rdPL_err h
theorem rdSns_stuck (l : List UInt8) (e : Int) (m : Nat) (h : (rdSns m l e).2.2 ≠ 0) : ∀ k, (rdSns (m + k) l e).2 = (rdSns m l e).2
  | 0 => rfl
  | k + 1 => by
    have ih := rdSns_stuck l e m h k
    rw [show m + (k + 1) = (m + k) + 1 by omega]
    simp only [rdSns]
    rw [ih, rdSn_err h]
theorem zbuiltSn (s : ByteArray) : Tryz.prog.built 45 [(0, .string s)] = some (snC s ⟨#[]⟩ 0 0 0 none 0 0).toArray := by kernel_rfl
theorem SnN.rr {w w' : World} {base p : Nat} {v : Value} {L : List Sn} {l : List UInt8} {e : Int} (h : SnN w base v L) (hp : RR w p l e) (hu : Gw p w w') : SnN w' base v L := by
  obtain ⟨X, h1, h2, h3⟩ := h
  exact ⟨X, LsN.rr (by decide) snNb h1 hp hu, h2, fun x hx => (h3 x hx).own' (LsN.rr (by decide) pcNb (h3 x hx).own hp hu)⟩
theorem RR.ownS {w w' : World} {p base : Nat} {v : Value} {L : List Sn} {l : List UInt8} {e : Int} (h : RR w p l e) (hv : SnN w base v L) (hg : w.grownBy w' v.ownBlock) : RR w' p l e := by
  obtain ⟨X, h1, h2, h3⟩ := hv
  exact RR.ownL (by decide) snNb h h1 hg
theorem SnN.upd {w w' : World} {base g : Nat} {v : Value} {L : List Sn} {C : List Value} (h : SnN w base v L) (hv : v.ownBlock ≠ some g) (hr : Row w g 45 C) (hu : Upd w w' g) : SnN w' base v L := by
  obtain ⟨X, h1, h2, h3⟩ := h
  exact ⟨X, h1.upd hu hv, h2, fun x hx => (h3 x hx).own' ((h3 x hx).own.upd hu ((h3 x hx).own.own_neM hr (by decide)))⟩
theorem SnN.lt {w : World} {base : Nat} {v : Value} {L : List Sn} (h : SnN w base v L) : ∀ g, v.ownBlock = some g → base ≤ g ∧ g < w.heap.size := by
  obtain ⟨X, h1, h2, h3⟩ := h
  exact h1.lt
/-- while snapshots are read: the reader, the list so far, a snapshot's row, its pieces -/
structure SS (w0 w : World) (p : Nat) (l : List UInt8) (e : Int) (g : Nat) (C : List Value) (v : Value) (L : List Sn) (u : Value) (P : List Pc) : Prop where
  rr : RR w p l e
  r : Row w g 45 C
  ln : SnN w w0.heap.size v L
  lm : LsN pcE w w0.heap.size u P
  gw : Gw p w0 w
  n : p ≠ g
  b : w0.heap.size ≤ g
section
variable {w0 w w' : World} {p g : Nat} {l : List UInt8} {e : Int} {C : List Value} {v u : Value} {L : List Sn} {P : List Pc}
theorem SS.rd (h : SS w0 w p l e g C v L u P) {l' : List UInt8} {e' : Int} (hP : RR w' p l' e') (hg : Gw p w w') : SS w0 w' p l' e' g C v L u P :=
  ⟨hP, h.r.gw hg h.n.symm, h.ln.rr h.rr hg, LsN.rr (by decide) pcNb h.lm h.rr hg, h.gw.trans hg, h.n, h.b⟩
theorem SS.grow (h : SS w0 w p l e g C v L u P) (hb : Below w.heap.size w w') : SS w0 w' p l e g C v L u P :=
  ⟨h.rr.mono hb, h.r.below hb h.r.lt, h.ln.kept hb, h.lm.kept hb, h.gw.trans (Gw.of_below hb), h.n, h.b⟩
theorem SS.setT (h : SS w0 w p l e g C v L u P) (hN : NoB C) (hv : v.ownBlock ≠ some g) {C' : List Value} (hr : Row w' g 45 C') (hu : Upd w w' g) : SS w0 w' p l e g C' v L u P :=
  ⟨h.rr.putM' h.n h.r hN hu, hr, h.ln.upd hv h.r hu, h.lm.upd hu (h.lm.own_neM h.r (by decide)), h.gw.tail h.b hu, h.n, h.b⟩
theorem SS.withP (h : SS w0 w p l e g C v L u P) {u' : Value} {P' : List Pc} (hN : LsN pcE w w0.heap.size u' P') : SS w0 w p l e g C v L u' P' :=
  ⟨h.rr, h.r, h.ln, hN, h.gw, h.n, h.b⟩
end
set_option maxRecDepth 100000 in
set_option maxHeartbeats 16000000 in
theorem zmread (p : Nat) (l : List UInt8) (e : Int) (w : World) (h : RR w p l e) :
    Calls Tryz.prog 9 #[.pointer (some ⟨p, 0, none⟩)] w fun x w' => ∃ a m c, x = .returned (.slice a m c) ∧ (readM l e).1.length = m ∧ SnN w' w.heap.size (.slice a m c) (readM l e).1 ∧ RR w' p (readM l e).2.1 (readM l e).2.2 ∧ Gw p w w' := by
  have H := Lib.hid h
  have HSZ := Lib.hid sn_size
  have MZ := Lib.hid sn_zero
  have hn := numR_leM 12 (by decide) l e
  obtain ⟨n, l1, e1, hq⟩ : ∃ x y z, numR 12 l e = (x, y, z) := ⟨_, _, _, rfl⟩
  have hsl : rdSL l e = (lsLm (rdSns n l1 e1), (rdSns n l1 e1).2) := by unfold rdSL; simp only [hq]
  rw [hq] at hn
  dsimp only at hn
  have HQ := Lib.hid hq
  have STK := Lib.hid (rdSns_stuck l1 e1)
  obtain ⟨Z, hZ⟩ : ∃ Z, readM l e = Z := ⟨_, rfl⟩
  rw [hZ]
  have HZ := Lib.hid (show endM (lsLm (rdSns n l1 e1), (rdSns n l1 e1).2) = Z by rw [← hZ]; unfold readM; rw [hsl])
  clear h hq hZ hsl
  go_enter Tryz.func9, Tryz.ntmps9
  go_wp2_with (first
    | (go_at_call 35; (with_reducible refine (rnumR p 12 l e w H.out).mono ?_); rw [HQ.out]; rintro x w1 ⟨rfl, hP, hu⟩; have P1 := Lib.hid hP; have G1 := Lib.hid (Gw.upd hu); clear hP hu))
  go_loopw [3, 5] (fun v i wr => ∃ (k : Nat) (Lk : List Sn) (lk : List UInt8) (ek : Int) (ad : Option Addr) (m cc : Nat), v = .slice ad m cc ∧ i = .int .i64 (k : Int) ∧ k ≤ n ∧ Lk.length = m ∧ Hid (rdSns k l1 e1 = (Lk, lk, ek)) ∧ Hid (SnN wr w.heap.size (.slice ad m cc) Lk) ∧ Hid (RR wr p lk ek) ∧ Hid (Gw p w wr)) (fun _ i _ => n - (intOf i).toNat)
  case atStart => exact ⟨0, [], l1, e1, none, 0, 0, rfl, rfl, Nat.zero_le _, rfl, Lib.hid rfl, Lib.hid (SnN.nil _ _), P1, G1⟩
  case round =>
    obtain ⟨k, Lk, lk, ek, ad, m, cc, rfl, rfl, hk, hlm, HK, N, P, G⟩ := hrel
    have HLM := Lib.hid hlm
    have hmk : m ≤ 12 := by have := rdSns_len l1 e1 k; rw [HK.out] at this; dsimp only at this; omega
    clear hlm
    by_cases hek : ek = 0
    · subst hek
      by_cases hlt : k < n
      · have hm1 := textR_sizeM 16 (by decide) lk 0
        obtain ⟨t1, l2, e2, hq1⟩ : ∃ x y z, textR 16 lk 0 = (x, y, z) := ⟨_, _, _, rfl⟩
        rw [hq1] at hm1
        have hm2 := textR_sizeM 16 (by decide) l2 e2
        obtain ⟨t2, l3, e3, hq2⟩ : ∃ x y z, textR 16 l2 e2 = (x, y, z) := ⟨_, _, _, rfl⟩
        rw [hq2] at hm2
        have hm3 := numR_leM 1099511627776 (by decide) l3 e3
        obtain ⟨n3, l4, e4, hq3⟩ : ∃ x y z, numR 1099511627776 l3 e3 = (x, y, z) := ⟨_, _, _, rfl⟩
        rw [hq3] at hm3
        have hm4 := numR_leM 1099511627776 (by decide) l4 e4
        obtain ⟨n4, l5, e5, hq4⟩ : ∃ x y z, numR 1099511627776 l4 e4 = (x, y, z) := ⟨_, _, _, rfl⟩
        rw [hq4] at hm4
        have hm5 := numR_leM 1099511627776 (by decide) l5 e5
        obtain ⟨n5, l6, e6, hq5⟩ : ∃ x y z, numR 1099511627776 l5 e5 = (x, y, z) := ⟨_, _, _, rfl⟩
        rw [hq5] at hm5
        have hpf := rdPL_mem Pc.fit rdPc_fit l6 e6
        obtain ⟨PL, l7, e7, hq6⟩ : ∃ x y z, rdPL l6 e6 = (x, y, z) := ⟨_, _, _, rfl⟩
        rw [hq6] at hpf
        dsimp only at hm1 hm2 hm3 hm4 hm5 hpf
        have Q6 := Lib.hid (fun w h => zreadps p l6 e6 w h)
        rw [hq6] at Q6
        dsimp only at Q6
        have hrd : rdSn lk 0 = (⟨str t1, str t2, (n3 : Int), (n4 : Int), (n5 : Int), PL⟩, l7, e7) := by unfold rdSn; simp only [hq1, hq2, hq3, hq4, hq5, hq6]
        have HK2 := Lib.hid (show rdSns (k + 1) l1 e1 = (Lk ++ [⟨str t1, str t2, (n3 : Int), (n4 : Int), (n5 : Int), PL⟩], l7, e7) by simp only [rdSns]; rw [HK.out]; dsimp only; rw [hrd])
        have HOW := Lib.hid (fun w' b a m c (hl : PL.length = m) (ho : LsN pcE w' b (.slice a m c) PL) => (show OwnN w' b ⟨⟨str t1, str t2, (n3 : Int), (n4 : Int), (n5 : Int), PL⟩, a, m, c⟩ from ⟨by dsimp only; rw [str_sizeM]; unfold maxLen; omega, by dsimp only; rw [str_sizeM]; unfold maxLen; omega, ⟨by dsimp only; omega, by dsimp only; omega⟩, ⟨by dsimp only; omega, by dsimp only; omega⟩, ⟨by dsimp only; omega, by dsimp only; omega⟩, hl, hpf, ho⟩))
        have Q1 := Lib.hid hq1
        have Q2 := Lib.hid hq2
        have Q3 := Lib.hid hq3
        have Q4 := Lib.hid hq4
        have Q5 := Lib.hid hq5
        have g2 : (k : Int) < (n : Int) := by omega
        clear hrd hq1 hq2 hq3 hq4 hq5 hq6 hm1 hm2 hm3 hm4 hm5 hpf
        go_wp2_with (first
          | (go_at_call 14; (with_reducible refine (rerr p lk 0 wr P.out).mono ?_); rintro x w' ⟨rfl, rfl⟩)
          | (go_at_call 36; (with_reducible refine (rtextR p 16 lk 0 wr P.out).mono ?_); rw [Q1.out]; rintro x w20 ⟨rfl, hP, hu⟩; have P20 := Lib.hid hP; have N20 := Lib.hid (N.out.rr P.out (Gw.upd hu)); have G20 := Lib.hid (G.out.trans (Gw.upd hu)); clear hP hu)
          | ((with_reducible refine build_row (o := ⟨some 21, _, _, _, _, _⟩) rfl _ _ rfl (snC (str t1) ⟨#[]⟩ 0 0 0 none 0 0) ?_ ?_); (focus (go_simp; exact zbuiltSn _)))
          | ((with_reducible refine alloc_row (o := ⟨some 6, _, _, _, _, _⟩) rfl _ rfl _ MZ.out ?_); intro w21 hr hb hz; have Y21 := Lib.hid (show SS w w21 p l2 e2 w20.heap.size (snC ⟨#[]⟩ ⟨#[]⟩ 0 0 0 none 0 0) (.slice ad m cc) Lk (.slice none 0 0) [] from ⟨P20.out.mono hb, hr, N20.out.kept hb, LsN.nil _ _, G20.out.trans (Gw.of_below hb), Nat.ne_of_lt P20.out.lt, G20.out.size⟩); have NV := Lib.hid (show (Value.slice ad m cc).ownBlock ≠ some w20.heap.size from fun h => Nat.lt_irrefl _ (N20.out.lt _ h).2); clear hr hb hz)
          | ((with_reducible refine store_row (o := ⟨none, _, _, _, _, _⟩) rfl _ (.tmp 6) _ rfl w20.heap.size (snC (str t1) ⟨#[]⟩ 0 0 0 none 0 0) ?_ ?_ 45 _ Y21.out.r ?_ ?_ ?_ ?_); (focus go_simp); (focus (first | (go_simp; done) | (go_simp; rfl))); (focus (exact HSZ.out)); (focus rfl); (focus (exact sn_one _ _ _ _ _ _ _ _)); intro w22 hr hu; have Y22 := Lib.hid (Y21.out.setT (nob_sn _ _ _ _ _ _ _ _) NV.out hr hu); clear hr hu)
          | (go_at_call 36; (with_reducible refine (rtextR p 16 l2 e2 w22 Y22.out.rr).mono ?_); rw [Q2.out]; rintro x w23 ⟨rfl, hP, hu⟩; have Y23 := Lib.hid (Y22.out.rd hP (Gw.upd hu)); clear hP hu)
          | ((with_reducible refine store_cell (o := ⟨none, _, _, _, _, _⟩) rfl _ (.tmp 24) _ rfl w20.heap.size 1 (.string (str t2)) ?_ ?_ rfl rfl 45 _ Y23.out.r ?_ ?_ ?_); (focus go_simp); (focus (go_simp; first | done | rfl)); (focus (kernel_rfl)); (focus (show 1 < 6; decide)); intro w24 hr hu; have Y24 := Lib.hid (Y23.out.setT (nob_sn _ _ _ _ _ _ _ _) NV.out (show Row w24 w20.heap.size 45 (snC (str t1) (str t2) 0 0 0 none 0 0) from hr) hu); clear hr hu)
          | (go_at_call 35; (with_reducible refine (rnumR p 1099511627776 l3 e3 w24 Y24.out.rr).mono ?_); rw [Q3.out]; rintro x w25 ⟨rfl, hP, hu⟩; have Y25 := Lib.hid (Y24.out.rd hP (Gw.upd hu)); clear hP hu)
          | ((with_reducible refine store_cell (o := ⟨none, _, _, _, _, _⟩) rfl _ (.tmp 27) _ rfl w20.heap.size 2 (.int .i64 (n3 : Int)) ?_ ?_ rfl rfl 45 _ Y25.out.r ?_ ?_ ?_); (focus go_simp); (focus (go_simp; first | done | rfl)); (focus (kernel_rfl)); (focus (show 2 < 6; decide)); intro w26 hr hu; have Y26 := Lib.hid (Y25.out.setT (nob_sn _ _ _ _ _ _ _ _) NV.out (show Row w26 w20.heap.size 45 (snC (str t1) (str t2) (n3 : Int) 0 0 none 0 0) from hr) hu); clear hr hu)
          | (go_at_call 35; (with_reducible refine (rnumR p 1099511627776 l4 e4 w26 Y26.out.rr).mono ?_); rw [Q4.out]; rintro x w27 ⟨rfl, hP, hu⟩; have Y27 := Lib.hid (Y26.out.rd hP (Gw.upd hu)); clear hP hu)
          | ((with_reducible refine store_cell (o := ⟨none, _, _, _, _, _⟩) rfl _ (.tmp 30) _ rfl w20.heap.size 3 (.int .i64 (n4 : Int)) ?_ ?_ rfl rfl 45 _ Y27.out.r ?_ ?_ ?_); (focus go_simp); (focus (go_simp; first | done | rfl)); (focus (kernel_rfl)); (focus (show 3 < 6; decide)); intro w28 hr hu; have Y28 := Lib.hid (Y27.out.setT (nob_sn _ _ _ _ _ _ _ _) NV.out (show Row w28 w20.heap.size 45 (snC (str t1) (str t2) (n3 : Int) (n4 : Int) 0 none 0 0) from hr) hu); clear hr hu)
          | (go_at_call 35; (with_reducible refine (rnumR p 1099511627776 l5 e5 w28 Y28.out.rr).mono ?_); rw [Q5.out]; rintro x w29 ⟨rfl, hP, hu⟩; have Y29 := Lib.hid (Y28.out.rd hP (Gw.upd hu)); clear hP hu)
          | ((with_reducible refine store_cell (o := ⟨none, _, _, _, _, _⟩) rfl _ (.tmp 33) _ rfl w20.heap.size 4 (.int .i64 (n5 : Int)) ?_ ?_ rfl rfl 45 _ Y29.out.r ?_ ?_ ?_); (focus go_simp); (focus (go_simp; first | done | rfl)); (focus (kernel_rfl)); (focus (show 4 < 6; decide)); intro w30 hr hu; have Y30 := Lib.hid (Y29.out.setT (nob_sn _ _ _ _ _ _ _ _) NV.out (show Row w30 w20.heap.size 45 (snC (str t1) (str t2) (n3 : Int) (n4 : Int) (n5 : Int) none 0 0) from hr) hu); clear hr hu)
          | (go_at_call 11; (with_reducible refine (Q6.out w30 Y30.out.rr).mono ?_); rintro x w31 ⟨pa, pm, pc, rfl, hl, hN, hP, hg⟩; have PM := Lib.hid hl; have Y31 := Lib.hid ((Y30.out.rd hP hg).withP (hN.base Y30.out.gw.size)); clear hl hN hP hg)
          | ((with_reducible refine store_cell (o := ⟨none, _, _, _, _, _⟩) rfl _ (.tmp 36) _ rfl w20.heap.size 5 (.slice pa pm pc) ?_ ?_ rfl rfl 45 _ Y31.out.r ?_ ?_ ?_); (focus go_simp); (focus (go_simp; first | done | rfl)); (focus (kernel_rfl)); (focus (show 5 < 6; decide)); intro w32 hr hu; have Y32 := Lib.hid (Y31.out.setT (nob_sn _ _ _ _ _ _ _ _) NV.out (show Row w32 w20.heap.size 45 (snC (str t1) (str t2) (n3 : Int) (n4 : Int) (n5 : Int) pa pm pc) from hr) hu); clear hr hu)
          | ((with_reducible refine load_row (o := ⟨some 38, _, _, _, _, _⟩) rfl _ _ rfl w20.heap.size ?_ _ (snC (str t1) (str t2) (n3 : Int) (n4 : Int) (n5 : Int) pa pm pc) _ Y32.out.r Tryz.underlying45 rfl ?_ ?_); (focus go_simp); (focus (exact HSZ.out)))
          | ((with_reducible refine build_ls snOk sn_fill (o := ⟨some 39, _, _, _, _, _⟩) rfl _ rfl (⟨⟨str t1, str t2, (n3 : Int), (n4 : Int), (n5 : Int), PL⟩, pa, pm, pc⟩ : SnX) ?_ ?_ (by decide) ?_); (focus (first | (go_simp; done) | (go_simp; rfl))); (focus (exact (HOW.out _ _ _ _ _ PM.out Y32.out.lm).x.fit)); intro w40 hl hb hz; have Q40 := Lib.hid hl; have Y40 := Lib.hid (Y32.out.grow hb); have O40 := Lib.hid (HOW.out _ _ _ _ _ PM.out Y40.out.lm); clear hl hb hz)
          | (at_builtin; (with_reducible refine append_snn rfl _ _ rfl w.heap.size (.slice ad m cc) Lk ?_ Y40.out.ln _ 0 1 1 (⟨⟨str t1, str t2, (n3 : Int), (n4 : Int), (n5 : Int), PL⟩, pa, pm, pc⟩ : SnX) ?_ Q40.out O40.out (by decide) ?_ Y40.out.gw.size ?_); (focus (first | (go_simp; done) | (go_simp; rfl))); (focus (first | (go_simp; done) | (go_simp; rfl))); (focus (rw [HLM.out]; omega)); intro v41 w41 hN hb hg; have P41 := Lib.hid (RR.ownS Y40.out.rr Y40.out.ln hg); have G41 := Lib.hid (gw_belowM Y40.out.gw hb); obtain ⟨m5, hm5⟩ : ∃ q, (Lk ++ [⟨str t1, str t2, (n3 : Int), (n4 : Int), (n5 : Int), PL⟩] : List Sn).length = q := ⟨_, rfl⟩; obtain ⟨a5, c5, hv5, -⟩ := hN.o.snl; rw [hm5] at hv5; subst hv5; have N41 := Lib.hid hN; have M41 := Lib.hid hm5; clear hN hb hg hm5))
        go_roundw
        case rel => exact ⟨k + 1, _, l7, e7, a5, m5, c5, rfl, vint (by omega), by omega, M41.out, HK2, N41, P41, G41⟩
        case measure => simp [intOf]; omega
      · obtain rfl : n = k := by omega
        obtain ⟨ck, hck⟩ : ∃ b, checkM Lk = b := ⟨_, rfl⟩
        have HCK := Lib.hid (by have q := umcheck ad m cc Lk wr (N.out.snl' HLM.out); rw [hck] at q; exact q)
        have hZ := HZ.out
        rw [HK.out] at hZ
        unfold lsLm endM at hZ
        dsimp only at hZ
        rw [if_pos rfl, if_pos rfl, hck] at hZ
        clear hck
        cases ck
        · rw [if_neg (by decide)] at hZ
          subst hZ
          go_wp2_with (first
            | (go_at_call 14; (with_reducible refine (rerr p lk 0 wr P.out).mono ?_); rintro x w' ⟨rfl, rfl⟩)
            | (go_at_call 37; (with_reducible refine HCK.out.mono ?_); rintro x w2 ⟨rfl, hb⟩; have P2 := Lib.hid (P.out.mono hb); have G2 := Lib.hid (G.out.trans (Gw.of_below hb)); clear hb)
            | (go_at_call 38; (with_reducible refine (rfail p lk 0 3 w2 P2.out).mono ?_); rintro x w3 ⟨rfl, hP, hu⟩; have P3 := Lib.hid (show RR w3 p [] 3 from hP); have G3 := Lib.hid (G2.out.trans (Gw.upd hu)); clear hP hu)
            | (go_at_call 14; (with_reducible refine (rerr p [] 3 w3 P3.out).mono ?_); rintro x w' ⟨rfl, rfl⟩))
          go_ret
          exact ⟨none, 0, 0, rfl, rfl, SnN.nil _ _, P3.out, G3.out⟩
        · rw [if_pos rfl] at hZ
          subst hZ
          go_wp2_with (first
            | (go_at_call 14; (with_reducible refine (rerr p lk 0 wr P.out).mono ?_); rintro x w' ⟨rfl, rfl⟩)
            | (go_at_call 37; (with_reducible refine HCK.out.mono ?_); rintro x w2 ⟨rfl, hb⟩; have P2 := Lib.hid (P.out.mono hb); have N2 := Lib.hid (N.out.kept hb); have G2 := Lib.hid (G.out.trans (Gw.of_below hb)); clear hb)
            | (go_at_call 14; (with_reducible refine (rerr p lk 0 w2 P2.out).mono ?_); rintro x w' ⟨rfl, rfl⟩))
          go_ret
          exact ⟨ad, m, cc, rfl, HLM.out, N2.out, P2.out, G2.out⟩
    · have hq : (ek == 0) = false := by simpa using hek
      have hq2 : (ek != 0) = true := by simpa using hek
      have hst : (rdSns n l1 e1).2 = (lk, ek) := by
        have h1 := STK.out k (by rw [HK.out]; exact hek) (n - k)
        rw [show k + (n - k) = n by omega, HK.out] at h1
        exact h1
      have hz2 : Z = ([], lk, ek) := by
        rw [← HZ.out]; unfold endM; dsimp only; rw [hst, if_neg hek]
      subst hz2
      clear hst
      by_cases hlt : k < n
      · have g2 : (k : Int) < (n : Int) := by omega
        go_wp2_with (first
          | (go_at_call 14; (with_reducible refine (rerr p lk ek wr P.out).mono ?_); rintro x w' ⟨rfl, rfl⟩))
        go_ret
        exact ⟨none, 0, 0, rfl, rfl, SnN.nil _ _, P.out, G.out⟩
      · obtain rfl : n = k := by omega
        go_wp2_with (first
          | (go_at_call 14; (with_reducible refine (rerr p lk ek wr P.out).mono ?_); rintro x w' ⟨rfl, rfl⟩))
        go_ret
        exact ⟨none, 0, 0, rfl, rfl, SnN.nil _ _, P.out, G.out⟩
end Go.Proofs.YtjolmjbhpokgmaaGreat.W

namespace Go.Proofs.YtjolmjbhpokgmaaGreat.W
open Go Go.ChangeShapes Go.WideShapes Go.ChangeAt Go.RowKit
open Go.Proofs.YtjolmjbhpokgmaaGreat.S

theorem toLM_eq {a b : ByteArray} (h : a.toList = b.toList) : a = b := by
  rw [ByteArray.toList_eq, ByteArray.toList_eq] at h
  obtain ⟨⟨x⟩⟩ := a
  obtain ⟨⟨y⟩⟩ := b
  simpa using h
theorem sn_next (L M : List Sn) (k : Nat) (x y : Sn) (h1 : L[k]? = some x) (h2 : M[k]? = some y) (hxy : x = y) (e : L.take k = M.take k) : L.take (k + 1) = M.take (k + 1) := by
  subst hxy
  obtain ⟨a1, a2⟩ := List.getElem?_eq_some_iff.1 h1
  obtain ⟨b1, b2⟩ := List.getElem?_eq_some_iff.1 h2
  rw [List.take_succ_eq_append_getElem a1, List.take_succ_eq_append_getElem b1, a2, b2, e]
set_option maxRecDepth 100000 in
set_option maxHeartbeats 16000000 in
theorem psamesnapV (x y : SnX) (V : Bool) (w : World) (hx : x.fit w) (hy : y.fit w) (hV : V = true ↔ x.s = y.s) :
    Calls Tryz.prog 49 #[.agg x.cells.toArray, .agg y.cells.toArray] w fun x w' => x = .returned (.bool V) ∧ Below w.heap.size w w' := by
  have hP := hx.P
  have hQ := hy.P
  clear hx hy
  obtain ⟨⟨xs, xn, xb, xt, xk, P⟩, xa, xm, xc⟩ := x
  obtain ⟨⟨ys, yn, yb, yt, yk, Q⟩, ya, ym, yc⟩ := y
  dsimp only at hP hQ hV
  by_cases h0 : xs = ys
  rotate_left
  · have HF := Lib.hid (show V = false by
      cases hh : V with
      | false => rfl
      | true => exact absurd (congrArg Sn.sp (hV.1 hh)) h0)
    have hbb : (xs.toList == ys.toList) = false := beq_eq_false_iff_ne.2 (fun e => h0 (toLM_eq e))
    clear hV
    clear hP hQ
    go_enter Tryz.func49, Tryz.ntmps49
    go_wp2_with (first
      | ((with_reducible refine box_row (o := ⟨some 2, _, _, _, _, _⟩) rfl _ _ rfl (snC xs xn xb xt xk xa xm xc) rfl ?_); intro w1 hr hb hz; have R1 := Lib.hid hr; have B1 := Lib.hid hb; clear hr hb hz)
      | ((with_reducible refine box_row (o := ⟨some 3, _, _, _, _, _⟩) rfl _ _ rfl (snC ys yn yb yt yk ya ym yc) rfl ?_); intro w2 hr hb hz; obtain ⟨e0, e1, e2, e3, e4, e5⟩ := hr.h6s; obtain ⟨c0, c1, c2, c3, c4, c5⟩ := (R1.out.below hb R1.out.lt).h6s; have B2 := Lib.hid (B1.out.trans (hb.mono B1.out.size)); clear hr hb hz))
    go_ret
    exact ⟨one (vbool (by rw [HF.out])), B2.out⟩
  subst h0
  by_cases h1 : xn = yn
  rotate_left
  · have HF := Lib.hid (show V = false by
      cases hh : V with
      | false => rfl
      | true => exact absurd (congrArg Sn.nm (hV.1 hh)) h1)
    have hbb : (xn.toList == yn.toList) = false := beq_eq_false_iff_ne.2 (fun e => h1 (toLM_eq e))
    clear hV
    clear hP hQ
    go_enter Tryz.func49, Tryz.ntmps49
    go_wp2_with (first
      | ((with_reducible refine box_row (o := ⟨some 2, _, _, _, _, _⟩) rfl _ _ rfl (snC xs xn xb xt xk xa xm xc) rfl ?_); intro w1 hr hb hz; have R1 := Lib.hid hr; have B1 := Lib.hid hb; clear hr hb hz)
      | ((with_reducible refine box_row (o := ⟨some 3, _, _, _, _, _⟩) rfl _ _ rfl (snC xs yn yb yt yk ya ym yc) rfl ?_); intro w2 hr hb hz; obtain ⟨e0, e1, e2, e3, e4, e5⟩ := hr.h6s; obtain ⟨c0, c1, c2, c3, c4, c5⟩ := (R1.out.below hb R1.out.lt).h6s; have B2 := Lib.hid (B1.out.trans (hb.mono B1.out.size)); clear hr hb hz))
    go_ret
    exact ⟨one (vbool (by rw [HF.out])), B2.out⟩
  subst h1
  by_cases h2 : xb = yb
  rotate_left
  · have HF := Lib.hid (show V = false by
      cases hh : V with
      | false => rfl
      | true => exact absurd (congrArg Sn.by' (hV.1 hh)) h2)
    have hbb : (xb == yb) = false := beq_eq_false_iff_ne.2 h2
    clear hV
    clear hP hQ
    go_enter Tryz.func49, Tryz.ntmps49
    go_wp2_with (first
      | ((with_reducible refine box_row (o := ⟨some 2, _, _, _, _, _⟩) rfl _ _ rfl (snC xs xn xb xt xk xa xm xc) rfl ?_); intro w1 hr hb hz; have R1 := Lib.hid hr; have B1 := Lib.hid hb; clear hr hb hz)
      | ((with_reducible refine box_row (o := ⟨some 3, _, _, _, _, _⟩) rfl _ _ rfl (snC xs xn yb yt yk ya ym yc) rfl ?_); intro w2 hr hb hz; obtain ⟨e0, e1, e2, e3, e4, e5⟩ := hr.h6s; obtain ⟨c0, c1, c2, c3, c4, c5⟩ := (R1.out.below hb R1.out.lt).h6s; have B2 := Lib.hid (B1.out.trans (hb.mono B1.out.size)); clear hr hb hz))
    go_ret
    exact ⟨one (vbool (by rw [HF.out])), B2.out⟩
  subst h2
  by_cases h3 : xt = yt
  rotate_left
  · have HF := Lib.hid (show V = false by
      cases hh : V with
      | false => rfl
      | true => exact absurd (congrArg Sn.ti (hV.1 hh)) h3)
    have hbb : (xt == yt) = false := beq_eq_false_iff_ne.2 h3
    clear hV
    clear hP hQ
    go_enter Tryz.func49, Tryz.ntmps49
    go_wp2_with (first
      | ((with_reducible refine box_row (o := ⟨some 2, _, _, _, _, _⟩) rfl _ _ rfl (snC xs xn xb xt xk xa xm xc) rfl ?_); intro w1 hr hb hz; have R1 := Lib.hid hr; have B1 := Lib.hid hb; clear hr hb hz)
      | ((with_reducible refine box_row (o := ⟨some 3, _, _, _, _, _⟩) rfl _ _ rfl (snC xs xn xb yt yk ya ym yc) rfl ?_); intro w2 hr hb hz; obtain ⟨e0, e1, e2, e3, e4, e5⟩ := hr.h6s; obtain ⟨c0, c1, c2, c3, c4, c5⟩ := (R1.out.below hb R1.out.lt).h6s; have B2 := Lib.hid (B1.out.trans (hb.mono B1.out.size)); clear hr hb hz))
    go_ret
    exact ⟨one (vbool (by rw [HF.out])), B2.out⟩
  subst h3
  by_cases h4 : xk = yk
  rotate_left
  · have HF := Lib.hid (show V = false by
      cases hh : V with
      | false => rfl
      | true => exact absurd (congrArg Sn.ke (hV.1 hh)) h4)
    have hbb : (xk == yk) = false := beq_eq_false_iff_ne.2 h4
    clear hV
    clear hP hQ
    go_enter Tryz.func49, Tryz.ntmps49
    go_wp2_with (first
      | ((with_reducible refine box_row (o := ⟨some 2, _, _, _, _, _⟩) rfl _ _ rfl (snC xs xn xb xt xk xa xm xc) rfl ?_); intro w1 hr hb hz; have R1 := Lib.hid hr; have B1 := Lib.hid hb; clear hr hb hz)
      | ((with_reducible refine box_row (o := ⟨some 3, _, _, _, _, _⟩) rfl _ _ rfl (snC xs xn xb xt yk ya ym yc) rfl ?_); intro w2 hr hb hz; obtain ⟨e0, e1, e2, e3, e4, e5⟩ := hr.h6s; obtain ⟨c0, c1, c2, c3, c4, c5⟩ := (R1.out.below hb R1.out.lt).h6s; have B2 := Lib.hid (B1.out.trans (hb.mono B1.out.size)); clear hr hb hz))
    go_ret
    exact ⟨one (vbool (by rw [HF.out])), B2.out⟩
  subst h4
  by_cases h5 : P = Q
  rotate_left
  · have HF := Lib.hid (show V = false by
      cases hh : V with
      | false => rfl
      | true => exact absurd (congrArg Sn.P (hV.1 hh)) h5)
    clear hV
    have HP := Lib.hid (fun w' (hb : Below w.heap.size w w') => psamepV xa ya xm xc ym yc P Q false w' (hP.mono pcOk hb) (hQ.mono pcOk hb) (by simp [h5]))
    clear hP hQ
    go_enter Tryz.func49, Tryz.ntmps49
    go_wp2_with (first
      | ((with_reducible refine box_row (o := ⟨some 2, _, _, _, _, _⟩) rfl _ _ rfl (snC xs xn xb xt xk xa xm xc) rfl ?_); intro w1 hr hb hz; have R1 := Lib.hid hr; have B1 := Lib.hid hb; clear hr hb hz)
      | ((with_reducible refine box_row (o := ⟨some 3, _, _, _, _, _⟩) rfl _ _ rfl (snC xs xn xb xt xk ya ym yc) rfl ?_); intro w2 hr hb hz; obtain ⟨e0, e1, e2, e3, e4, e5⟩ := hr.h6s; obtain ⟨c0, c1, c2, c3, c4, c5⟩ := (R1.out.below hb R1.out.lt).h6s; have B2 := Lib.hid (B1.out.trans (hb.mono B1.out.size)); clear hr hb hz)
      | (go_at_call 24; (with_reducible refine (HP.out w2 B2.out).mono ?_); rintro x w3 ⟨rfl, hb⟩; have B3 := Lib.hid (B2.out.trans (hb.mono B2.out.size)); clear hb))
    go_ret
    exact ⟨one (vbool (by rw [HF.out])), B3.out⟩
  subst h5
  have HF := Lib.hid (show V = true from hV.2 rfl)
  clear hV
  have HP := Lib.hid (fun w' (hb : Below w.heap.size w w') => psamepV xa ya xm xc ym yc P P true w' (hP.mono pcOk hb) (hQ.mono pcOk hb) (by simp))
  clear hP hQ
  go_enter Tryz.func49, Tryz.ntmps49
  go_wp2_with (first
    | ((with_reducible refine box_row (o := ⟨some 2, _, _, _, _, _⟩) rfl _ _ rfl (snC xs xn xb xt xk xa xm xc) rfl ?_); intro w1 hr hb hz; have R1 := Lib.hid hr; have B1 := Lib.hid hb; clear hr hb hz)
    | ((with_reducible refine box_row (o := ⟨some 3, _, _, _, _, _⟩) rfl _ _ rfl (snC xs xn xb xt xk ya ym yc) rfl ?_); intro w2 hr hb hz; obtain ⟨e0, e1, e2, e3, e4, e5⟩ := hr.h6s; obtain ⟨c0, c1, c2, c3, c4, c5⟩ := (R1.out.below hb R1.out.lt).h6s; have B2 := Lib.hid (B1.out.trans (hb.mono B1.out.size)); clear hr hb hz)
    | (go_at_call 24; (with_reducible refine (HP.out w2 B2.out).mono ?_); rintro x w3 ⟨rfl, hb⟩; have B3 := Lib.hid (B2.out.trans (hb.mono B2.out.size)); clear hb))
  go_ret
  exact ⟨one (vbool (by rw [HF.out])), B3.out⟩
set_option maxRecDepth 100000 in
set_option maxHeartbeats 16000000 in
theorem pequalFV (a a' : Option Addr) (n c n' c' : Nat) (L M : List Sn) (V : Bool) (w : World) (h1 : SnL w a n c L) (h2 : SnL w a' n' c' M) (hV : V = true ↔ L = M) :
    Calls Tryz.prog 48 #[.slice a n c, .slice a' n' c', .func (.func 49) #[] #[]] w fun x w' => x = .returned (.bool V) ∧ Below w.heap.size w w' := by
  obtain ⟨X, hX, hXL⟩ := h1
  obtain ⟨Y, hY, hYL⟩ := h2
  have L1 := Lib.hid (show L.length = n by rw [← hXL, List.length_map, hX.hlen])
  have L2 := Lib.hid (show M.length = n' by rw [← hYL, List.length_map, hY.hlen])
  have H1 := Lib.hid hX
  have H2 := Lib.hid hY
  have HXL := Lib.hid hXL
  have HYL := Lib.hid hYL
  have HV := Lib.hid hV
  have SZ := Lib.hid sn_size
  have MZ := Lib.hid sn_zero
  have hm := hX.hmax
  have hle := hX.hle
  have hm2 := hY.hmax
  have hle2 := hY.hle
  clear hX hY hXL hYL hV
  by_cases hn : n = n'
  case neg =>
    have HF := Lib.hid (show V = false by
      cases hh : V with
      | false => rfl
      | true => exact absurd (by rw [← L1.out, ← L2.out, HV.out.1 hh]) hn)
    have gn : ((n : Int) == (n' : Int)) = false := beq_eq_false_iff_ne.2 (by omega)
    have gm : ¬ ((n : Int) = (n' : Int)) := by omega
    clear HV
    go_enter Tryz.func48, Tryz.ntmps48
    go_wp2_with fail
    go_ret
    exact ⟨one (vbool (by rw [HF.out])), Below.refl _ _⟩
  subst hn
  go_enter Tryz.func48, Tryz.ntmps48
  go_wp2_with fail
  go_loopw [17] (fun i wr => ∃ k : Nat, i = .int .i64 (k : Int) ∧ k ≤ n ∧ Hid (L.take k = M.take k) ∧ Hid (Below w.heap.size w wr)) (fun i _ => n - (intOf i).toNat)
  case atStart => exact ⟨0, rfl, Nat.zero_le _, Lib.hid rfl, Lib.hid (Below.refl _ _)⟩
  case round =>
    obtain ⟨k, rfl, hk, T, B⟩ := hrel
    by_cases hlt : k < n
    · obtain ⟨b, o, x, rfl, hx1, hc1, -⟩ := H1.out.at snOk B.out k hlt
      obtain ⟨b', o', y, rfl, hx2, hc2, -⟩ := H2.out.at snOk B.out k hlt
      obtain ⟨d, hd⟩ : ∃ d : Bool, d = true ↔ x.s = y.s := by
        by_cases e : x.s = y.s
        · exact ⟨true, by simp [e]⟩
        · exact ⟨false, by simp [e]⟩
      have m1 := map_at HXL.out hx1
      have m2 := map_at HYL.out hx2
      have HNX := Lib.hid (show d = true → L.take (k + 1) = M.take (k + 1) from fun e => sn_next L M k x.s y.s m1 m2 (hd.1 e) T.out)
      have HBD := Lib.hid (show d = false → V = false from fun e => by
        cases hh : V with
        | false => rfl
        | true =>
          have e2 := HV.out.1 hh
          rw [e2, m2] at m1
          have e3 := hd.2 (Option.some.inj m1).symm
          rw [e] at e3; cases e3)
      have F1 := H1.out.hfit x (List.mem_of_getElem? hx1)
      have F2 := H2.out.hfit y (List.mem_of_getElem? hx2)
      have g1 : (0 : Int) ≤ (k : Int) := by omega
      have g2 : (k : Int) < (n : Int) := by omega
      have X1 := Lib.hid hc1
      have X2 := Lib.hid hc2
      clear hc1 hc2 hx1 hx2 m1 m2
      have HSS := Lib.hid (fun w' (hb : Below w.heap.size w w') => psamesnapV x y d w' (snOk.mono x _ _ F1 hb) (snOk.mono y _ _ F2 hb) hd)
      obtain ⟨⟨xs, xn, xb, xt, xk, P⟩, xa, xm, xc⟩ := x
      obtain ⟨⟨ys, yn, yb, yt, yk, Q⟩, ya, ym, yc⟩ := y
      clear F1 F2 hd
      cases d
      · have HF := Lib.hid (HBD.out rfl)
        clear HNX HBD
        go_wp2_with (first
        | ((with_reducible refine load_cells (o := ⟨some 21, _, _, _, _, _⟩) rfl _ _ rfl b (o + k * 6) ?_ (snC xs xn xb xt xk xa xm xc) _ X1.out Tryz.underlying45 rfl ?_ ?_); (focus go_simp); (focus (exact SZ.out)))
        | ((with_reducible refine alloc_row (o := ⟨some 8, _, _, _, _, _⟩) rfl _ rfl _ MZ.out ?_); intro w1 hr hb hz; have R1 := Lib.hid hr; have D1 := Lib.hid hb; clear hr hb hz)
        | ((with_reducible refine store_row (o := ⟨none, _, _, _, _, _⟩) rfl _ (.tmp 8) _ rfl wr.heap.size (snC xs xn xb xt xk xa xm xc) ?_ ?_ 45 _ R1.out ?_ ?_ ?_ ?_); (focus go_simp); (focus (first | (go_simp; done) | (go_simp; rfl))); (focus (exact SZ.out)); (focus rfl); (focus (exact sn_one _ _ _ _ _ _ _ _)); intro w2 hr hu; have R2 := Lib.hid hr; have D2 := Lib.hid (D1.out.trans (hu.below (Nat.le_refl _))); have X22 := Lib.hid (show ∀ j v, (snC ys yn yb yt yk ya ym yc : List Value)[j]? = some v → w2.cell? ⟨b', o' + k * 6 + j, none⟩ = some v from fun j v hj => (D2.out.cell (p := ⟨b', o' + k * 6 + j, none⟩) (World.block_lt_of_cell? wr _ (X2.out j v hj))).trans (X2.out j v hj)); clear hr hu)
        | ((with_reducible refine load_cells (o := ⟨some 25, _, _, _, _, _⟩) rfl _ _ rfl b' (o' + k * 6) ?_ (snC ys yn yb yt yk ya ym yc) _ X22.out Tryz.underlying45 rfl ?_ ?_); (focus go_simp); (focus (exact SZ.out)))
        | ((with_reducible refine alloc_row (o := ⟨some 9, _, _, _, _, _⟩) rfl _ rfl _ MZ.out ?_); intro w3 hr hb hz; have Q3 := Lib.hid hr; have R3 := Lib.hid (R2.out.below hb R2.out.lt); have LT := Lib.hid R2.out.lt; have D3 := Lib.hid (D2.out.trans (hb.mono D2.out.size)); clear hr hb hz)
        | ((with_reducible refine store_row (o := ⟨none, _, _, _, _, _⟩) rfl _ (.tmp 9) _ rfl w2.heap.size (snC ys yn yb yt yk ya ym yc) ?_ ?_ 45 _ Q3.out ?_ ?_ ?_ ?_); (focus go_simp); (focus (first | (go_simp; done) | (go_simp; rfl))); (focus (exact SZ.out)); (focus rfl); (focus (exact sn_one _ _ _ _ _ _ _ _)); intro w4 hr hu; have Q4 := Lib.hid hr; have R4 := Lib.hid (R3.out.upd hu (Nat.ne_of_lt LT.out)); have D4 := Lib.hid (D3.out.trans (hu.below D2.out.size)); clear hr hu)
        | ((with_reducible refine load_row (o := ⟨some 27, _, _, _, _, _⟩) rfl _ _ rfl wr.heap.size ?_ _ (snC xs xn xb xt xk xa xm xc) _ R4.out Tryz.underlying45 rfl ?_ ?_); (focus go_simp); (focus (exact SZ.out)))
        | ((with_reducible refine load_row (o := ⟨some 28, _, _, _, _, _⟩) rfl _ _ rfl w2.heap.size ?_ _ (snC ys yn yb yt yk ya ym yc) _ Q4.out Tryz.underlying45 rfl ?_ ?_); (focus go_simp); (focus (exact SZ.out)))
        | (go_at_call 49; (with_reducible refine (HSS.out w4 (B.out.trans (D4.out.mono B.out.size))).mono ?_); rintro x w5 ⟨rfl, hb⟩; have B5 := Lib.hid ((B.out.trans (D4.out.mono B.out.size)).trans (hb.mono (Nat.le_trans B.out.size D4.out.size))); clear hb))
        go_ret
        exact ⟨one (vbool (by rw [HF.out])), B5.out⟩
      · have HN := Lib.hid (HNX.out rfl)
        clear HNX HBD
        go_wp2_with (first
        | ((with_reducible refine load_cells (o := ⟨some 21, _, _, _, _, _⟩) rfl _ _ rfl b (o + k * 6) ?_ (snC xs xn xb xt xk xa xm xc) _ X1.out Tryz.underlying45 rfl ?_ ?_); (focus go_simp); (focus (exact SZ.out)))
        | ((with_reducible refine alloc_row (o := ⟨some 8, _, _, _, _, _⟩) rfl _ rfl _ MZ.out ?_); intro w1 hr hb hz; have R1 := Lib.hid hr; have D1 := Lib.hid hb; clear hr hb hz)
        | ((with_reducible refine store_row (o := ⟨none, _, _, _, _, _⟩) rfl _ (.tmp 8) _ rfl wr.heap.size (snC xs xn xb xt xk xa xm xc) ?_ ?_ 45 _ R1.out ?_ ?_ ?_ ?_); (focus go_simp); (focus (first | (go_simp; done) | (go_simp; rfl))); (focus (exact SZ.out)); (focus rfl); (focus (exact sn_one _ _ _ _ _ _ _ _)); intro w2 hr hu; have R2 := Lib.hid hr; have D2 := Lib.hid (D1.out.trans (hu.below (Nat.le_refl _))); have X22 := Lib.hid (show ∀ j v, (snC ys yn yb yt yk ya ym yc : List Value)[j]? = some v → w2.cell? ⟨b', o' + k * 6 + j, none⟩ = some v from fun j v hj => (D2.out.cell (p := ⟨b', o' + k * 6 + j, none⟩) (World.block_lt_of_cell? wr _ (X2.out j v hj))).trans (X2.out j v hj)); clear hr hu)
        | ((with_reducible refine load_cells (o := ⟨some 25, _, _, _, _, _⟩) rfl _ _ rfl b' (o' + k * 6) ?_ (snC ys yn yb yt yk ya ym yc) _ X22.out Tryz.underlying45 rfl ?_ ?_); (focus go_simp); (focus (exact SZ.out)))
        | ((with_reducible refine alloc_row (o := ⟨some 9, _, _, _, _, _⟩) rfl _ rfl _ MZ.out ?_); intro w3 hr hb hz; have Q3 := Lib.hid hr; have R3 := Lib.hid (R2.out.below hb R2.out.lt); have LT := Lib.hid R2.out.lt; have D3 := Lib.hid (D2.out.trans (hb.mono D2.out.size)); clear hr hb hz)
        | ((with_reducible refine store_row (o := ⟨none, _, _, _, _, _⟩) rfl _ (.tmp 9) _ rfl w2.heap.size (snC ys yn yb yt yk ya ym yc) ?_ ?_ 45 _ Q3.out ?_ ?_ ?_ ?_); (focus go_simp); (focus (first | (go_simp; done) | (go_simp; rfl))); (focus (exact SZ.out)); (focus rfl); (focus (exact sn_one _ _ _ _ _ _ _ _)); intro w4 hr hu; have Q4 := Lib.hid hr; have R4 := Lib.hid (R3.out.upd hu (Nat.ne_of_lt LT.out)); have D4 := Lib.hid (D3.out.trans (hu.below D2.out.size)); clear hr hu)
        | ((with_reducible refine load_row (o := ⟨some 27, _, _, _, _, _⟩) rfl _ _ rfl wr.heap.size ?_ _ (snC xs xn xb xt xk xa xm xc) _ R4.out Tryz.underlying45 rfl ?_ ?_); (focus go_simp); (focus (exact SZ.out)))
        | ((with_reducible refine load_row (o := ⟨some 28, _, _, _, _, _⟩) rfl _ _ rfl w2.heap.size ?_ _ (snC ys yn yb yt yk ya ym yc) _ Q4.out Tryz.underlying45 rfl ?_ ?_); (focus go_simp); (focus (exact SZ.out)))
        | (go_at_call 49; (with_reducible refine (HSS.out w4 (B.out.trans (D4.out.mono B.out.size))).mono ?_); rintro x w5 ⟨rfl, hb⟩; have B5 := Lib.hid ((B.out.trans (D4.out.mono B.out.size)).trans (hb.mono (Nat.le_trans B.out.size D4.out.size))); clear hb))
        go_roundw
        case rel => exact ⟨k + 1, vint (by omega), by omega, HN, B5⟩
        case measure => simp [intOf]; omega
    · obtain rfl : n = k := by omega
      have e1 : L.take n = L := List.take_of_length_le (by rw [L1.out]; exact Nat.le_refl _)
      have e2 : M.take n = M := List.take_of_length_le (by rw [L2.out]; exact Nat.le_refl _)
      have HT := Lib.hid (show V = true from HV.out.2 (by have := T.out; rw [e1, e2] at this; exact this))
      clear e1 e2
      go_wp2_with fail
      go_ret
      exact ⟨one (vbool (by rw [HT.out])), B.out⟩
set_option maxRecDepth 100000 in
theorem psamesV (a a' : Option Addr) (n c n' c' : Nat) (L M : List Sn) (V : Bool) (w : World) (h1 : SnL w a n c L) (h2 : SnL w a' n' c' M) (hV : V = true ↔ L = M) :
    Calls Tryz.prog 23 #[.slice a n c, .slice a' n' c'] w fun x w' => x = .returned (.bool V) ∧ Below w.heap.size w w' := by
  have HE := Lib.hid (pequalFV a a' n c n' c' L M V w h1 h2 hV)
  clear h1 h2 hV
  go_enter Tryz.func23, Tryz.ntmps23
  go_wp2_with (first
    | (go_at_call 48; (with_reducible refine HE.out.mono ?_); rintro x w1 ⟨rfl, hb⟩; have B1 := Lib.hid hb; clear hb))
  go_ret
  exact ⟨rfl, B1.out⟩
set_option maxRecDepth 100000 in
set_option maxHeartbeats 64000000 in
theorem usamesV (a a' : Option Addr) (n c n' c' : Nat) (L M : List Sn) (V : Bool) (w : World) (h1 : SnL w a n c L) (h2 : SnL w a' n' c' M) (hV : V = true ↔ L = M) :
    Calls Tryz.prog 12 #[.slice a n c, .slice a' n' c'] w fun x w' => x = .returned (.bool V) ∧ Below w.heap.size w w' := by
  obtain ⟨X, hX, hXL⟩ := h1
  obtain ⟨Y, hY, hYL⟩ := h2
  have L1 := Lib.hid (show L.length = n by rw [← hXL, List.length_map, hX.hlen])
  have L2 := Lib.hid (show M.length = n' by rw [← hYL, List.length_map, hY.hlen])
  have H1 := Lib.hid hX
  have H2 := Lib.hid hY
  have HXL := Lib.hid hXL
  have HYL := Lib.hid hYL
  have HV := Lib.hid hV
  have SZ := Lib.hid sn_size
  have MZ := Lib.hid sn_zero
  have hm := hX.hmax
  have hle := hX.hle
  have hm2 := hY.hmax
  have hle2 := hY.hle
  clear hX hY hXL hYL hV
  by_cases hn : n = n'
  case neg =>
    have HF := Lib.hid (show V = false by
      cases hh : V with
      | false => rfl
      | true => exact absurd (by rw [← L1.out, ← L2.out, HV.out.1 hh]) hn)
    have gn : ((n : Int) == (n' : Int)) = false := beq_eq_false_iff_ne.2 (by omega)
    have gm : ¬ ((n : Int) = (n' : Int)) := by omega
    clear HV
    go_enter Tryz.func12, Tryz.ntmps12
    go_wp2_with fail
    go_ret
    exact ⟨one (vbool (by rw [HF.out])), Below.refl _ _⟩
  subst hn
  go_enter Tryz.func12, Tryz.ntmps12
  go_wp2_with fail
  go_loopw [5] (fun i wr => ∃ k : Nat, i = .int .i64 (k : Int) ∧ k ≤ n ∧ Hid (L.take k = M.take k) ∧ Hid (Below w.heap.size w wr)) (fun i _ => n - (intOf i).toNat)
  case atStart => exact ⟨0, rfl, Nat.zero_le _, Lib.hid rfl, Lib.hid (Below.refl _ _)⟩
  case round =>
    obtain ⟨k, rfl, hk, T, B⟩ := hrel
    by_cases hlt : k < n
    · obtain ⟨b, o, x, rfl, hx1, hc1, -⟩ := H1.out.at snOk B.out k hlt
      obtain ⟨b', o', y, rfl, hx2, hc2, -⟩ := H2.out.at snOk B.out k hlt
      obtain ⟨d, hd⟩ : ∃ d : Bool, d = true ↔ x.s = y.s := by
        by_cases e : x.s = y.s
        · exact ⟨true, by simp [e]⟩
        · exact ⟨false, by simp [e]⟩
      have m1 := map_at HXL.out hx1
      have m2 := map_at HYL.out hx2
      have HNX := Lib.hid (show d = true → L.take (k + 1) = M.take (k + 1) from fun e => sn_next L M k x.s y.s m1 m2 (hd.1 e) T.out)
      have HBD := Lib.hid (show d = false → V = false from fun e => by
        cases hh : V with
        | false => rfl
        | true =>
          have e2 := HV.out.1 hh
          rw [e2, m2] at m1
          have e3 := hd.2 (Option.some.inj m1).symm
          rw [e] at e3; cases e3)
      have F1 := H1.out.hfit x (List.mem_of_getElem? hx1)
      have F2 := H2.out.hfit y (List.mem_of_getElem? hx2)
      have g1 : (0 : Int) ≤ (k : Int) := by omega
      have g2 : (k : Int) < (n : Int) := by omega
      have X1 := Lib.hid hc1
      have X2 := Lib.hid hc2
      clear hc1 hc2 hx1 hx2 m1 m2
      have hP0 := F1.P
      have hQ0 := F2.P
      clear F1 F2
      obtain ⟨⟨xs, xn, xb, xt, xk, P⟩, xa, xm, xc⟩ := x
      obtain ⟨⟨ys, yn, yb, yt, yk, Q⟩, ya, ym, yc⟩ := y
      dsimp only at hP0 hQ0 hd
      have hP := hP0
      have hQ := hQ0
      clear hP0 hQ0
      by_cases h0 : xs = ys
      rotate_left
      · have HF := Lib.hid (show V = false from HBD.out (by
          cases hh : d with
          | false => rfl
          | true => exact absurd (congrArg Sn.sp (hd.1 hh)) h0))
        have hbb : (xs.toList == ys.toList) = false := beq_eq_false_iff_ne.2 (fun e => h0 (toLM_eq e))
        clear hd HNX HBD
        clear hP hQ
        go_wp2_with fail
        refine region_h (fun v => Below wr.heap.size wr v) (by kernel_rfl) (by kernel_rfl) (Below.refl _ _).drew ?_
        obtain ⟨wd, hwd⟩ : ∃ wd, wr.drew = wd := ⟨_, rfl⟩
        have D0 : Hid (Below wr.heap.size wr wd) := Lib.hid (by rw [← hwd]; exact (Below.refl _ _).drew)
        rw [hwd]
        clear hwd
        (refine h_read 0 rfl (by kernel_rfl) (by kernel_rfl) (h_free rfl) ?_ ?_ ?_; rotate_left; (focus (intro v hv; go_simp; rfl)); go_simp)
        (refine h_read 1 rfl (by kernel_rfl) (by kernel_rfl) (h_free rfl) ?_ ?_ ?_; rotate_left; (focus (intro v hv; go_simp; rfl)); go_simp)
        (refine h_read 2 rfl (by kernel_rfl) (by kernel_rfl) (h_free rfl) ?_ ?_ ?_; rotate_left; (focus (intro v hv; go_simp; rfl)); go_simp)
        (refine h_read 3 rfl (by kernel_rfl) (by kernel_rfl) (h_free rfl) ?_ ?_ ?_; rotate_left; (focus (intro v hv; refine run_cells 45 (.tmp 21) ?_ b (o + k * 6) ?_ (snC xs xn xb xt xk xa xm xc) _ (fun j' u hj => by rw [hv.cell (p := ⟨b, o + k * 6 + j', none⟩) (World.block_lt_of_cell? wr _ (X1.out j' u hj))]; exact X1.out j' u hj) Tryz.underlying45 rfl sn_size; (focus rfl); go_simp)); go_simp)
        (refine h_read 4 rfl (by kernel_rfl) (by kernel_rfl) (h_free rfl) ?_ ?_ ?_; rotate_left; (focus (intro v hv; go_simp; rfl)); go_simp)
        (refine h_read 5 rfl (by kernel_rfl) (by kernel_rfl) (h_free rfl) ?_ ?_ ?_; rotate_left; (focus (intro v hv; go_simp; rfl)); go_simp)
        (refine h_read 6 rfl (by kernel_rfl) (by kernel_rfl) (h_free rfl) ?_ ?_ ?_; rotate_left; (focus (intro v hv; go_simp; rfl)); go_simp)
        (refine h_read 7 rfl (by kernel_rfl) (by kernel_rfl) (h_free rfl) ?_ ?_ ?_; rotate_left; (focus (intro v hv; refine run_cells 45 (.tmp 25) ?_ b' (o' + k * 6) ?_ (snC ys yn yb yt yk ya ym yc) _ (fun j' u hj => by rw [hv.cell (p := ⟨b', o' + k * 6 + j', none⟩) (World.block_lt_of_cell? wr _ (X2.out j' u hj))]; exact X2.out j' u hj) Tryz.underlying45 rfl sn_size; (focus rfl); go_simp)); go_simp)
        refine h_two 8 9 rfl rfl (by kernel_rfl) ?_ ?_
        · intro K hK
          refine alloc_row rfl _ rfl _ MZ.out ?_
          intro w1 hr hb hz
          have RA := Lib.hid hr; have BA := Lib.hid (D0.out.trans (hb.mono D0.out.size)); have SA := Lib.hid (show wd.heap.size < w1.heap.size by omega)
          clear hr hb hz
          go_wp2_with fail
          refine hK _ _ BA.out ?_
          clear hK K
          (refine h_list 9 rfl (by kernel_rfl) ?_; intro K hK)
          refine alloc_row rfl _ rfl _ MZ.out ?_
          intro w2 hr hb hz
          have RB := Lib.hid hr; have RA2 := Lib.hid (RA.out.below hb RA.out.lt); have BB := Lib.hid (BA.out.trans (hb.mono BA.out.size))
          clear hr hb hz
          go_wp2_with fail
          refine hK _ _ BB.out ?_
          clear hK K
          (refine h_list 10 rfl (by kernel_rfl) ?_; intro K hK)
          refine store_row rfl _ (.tmp 6) _ rfl wd.heap.size (snC xs xn xb xt xk xa xm xc) ?_ ?_ 45 _ RA2.out SZ.out rfl (sn_one _ _ _ _ _ _ _ _) ?_
          · go_simp
          · first | (go_simp; done) | (go_simp; rfl)
          intro w3 hr hu
          have R63 := Lib.hid hr; have R73 := Lib.hid (RB.out.upd hu (Nat.ne_of_gt SA.out)); have BC := Lib.hid (BB.out.trans (hu.below D0.out.size))
          clear hr hu
          go_wp2_with fail
          refine hK _ _ BC.out ?_
          clear hK K
          (refine h_list 11 rfl (by kernel_rfl) ?_; intro K hK)
          refine store_row rfl _ (.tmp 7) _ rfl w1.heap.size (snC ys yn yb yt yk ya ym yc) ?_ ?_ 45 _ R73.out SZ.out rfl (sn_one _ _ _ _ _ _ _ _) ?_
          · go_simp
          · first | (go_simp; done) | (go_simp; rfl)
          intro w4 hr hu
          obtain ⟨e0, e1, e2, e3, e4, e5⟩ := hr.h6s
          obtain ⟨c0, c1, c2, c3, c4, c5⟩ := (R63.out.upd hu (Nat.ne_of_lt SA.out)).h6s
          have BD := Lib.hid (BC.out.trans (hu.below BA.out.size))
          clear hr hu
          go_wp2_with fail
          refine hK _ _ BD.out ?_
          clear hK K
          refine h_done (by kernel_rfl) ?_
          have BE := Lib.hid (B.out.trans (BD.out.mono B.out.size))
          go_wp2_with fail
          go_ret
          exact ⟨one (vbool (by rw [HF.out])), BE.out⟩
        · intro K hK
          refine alloc_row rfl _ rfl _ MZ.out ?_
          intro w1 hr hb hz
          have RA := Lib.hid hr; have BA := Lib.hid (D0.out.trans (hb.mono D0.out.size)); have SA := Lib.hid (show wd.heap.size < w1.heap.size by omega)
          clear hr hb hz
          go_wp2_with fail
          refine hK _ _ BA.out ?_
          clear hK K
          (refine h_list 8 rfl (by kernel_rfl) ?_; intro K hK)
          refine alloc_row rfl _ rfl _ MZ.out ?_
          intro w2 hr hb hz
          have RB := Lib.hid hr; have RA2 := Lib.hid (RA.out.below hb RA.out.lt); have BB := Lib.hid (BA.out.trans (hb.mono BA.out.size))
          clear hr hb hz
          go_wp2_with fail
          refine hK _ _ BB.out ?_
          clear hK K
          (refine h_list 10 rfl (by kernel_rfl) ?_; intro K hK)
          refine store_row rfl _ (.tmp 6) _ rfl w1.heap.size (snC xs xn xb xt xk xa xm xc) ?_ ?_ 45 _ RB.out SZ.out rfl (sn_one _ _ _ _ _ _ _ _) ?_
          · go_simp
          · first | (go_simp; done) | (go_simp; rfl)
          intro w3 hr hu
          have R63 := Lib.hid hr; have R73 := Lib.hid (RA2.out.upd hu (Nat.ne_of_lt SA.out)); have BC := Lib.hid (BB.out.trans (hu.below BA.out.size))
          clear hr hu
          go_wp2_with fail
          refine hK _ _ BC.out ?_
          clear hK K
          (refine h_list 11 rfl (by kernel_rfl) ?_; intro K hK)
          refine store_row rfl _ (.tmp 7) _ rfl wd.heap.size (snC ys yn yb yt yk ya ym yc) ?_ ?_ 45 _ R73.out SZ.out rfl (sn_one _ _ _ _ _ _ _ _) ?_
          · go_simp
          · first | (go_simp; done) | (go_simp; rfl)
          intro w4 hr hu
          obtain ⟨e0, e1, e2, e3, e4, e5⟩ := hr.h6s
          obtain ⟨c0, c1, c2, c3, c4, c5⟩ := (R63.out.upd hu (Nat.ne_of_gt SA.out)).h6s
          have BD := Lib.hid (BC.out.trans (hu.below D0.out.size))
          clear hr hu
          go_wp2_with fail
          refine hK _ _ BD.out ?_
          clear hK K
          refine h_done (by kernel_rfl) ?_
          have BE := Lib.hid (B.out.trans (BD.out.mono B.out.size))
          go_wp2_with fail
          go_ret
          exact ⟨one (vbool (by rw [HF.out])), BE.out⟩
      subst h0
      by_cases h1 : xn = yn
      rotate_left
      · have HF := Lib.hid (show V = false from HBD.out (by
          cases hh : d with
          | false => rfl
          | true => exact absurd (congrArg Sn.nm (hd.1 hh)) h1))
        have hbb : (xn.toList == yn.toList) = false := beq_eq_false_iff_ne.2 (fun e => h1 (toLM_eq e))
        clear hd HNX HBD
        clear hP hQ
        go_wp2_with fail
        refine region_h (fun v => Below wr.heap.size wr v) (by kernel_rfl) (by kernel_rfl) (Below.refl _ _).drew ?_
        obtain ⟨wd, hwd⟩ : ∃ wd, wr.drew = wd := ⟨_, rfl⟩
        have D0 : Hid (Below wr.heap.size wr wd) := Lib.hid (by rw [← hwd]; exact (Below.refl _ _).drew)
        rw [hwd]
        clear hwd
        (refine h_read 0 rfl (by kernel_rfl) (by kernel_rfl) (h_free rfl) ?_ ?_ ?_; rotate_left; (focus (intro v hv; go_simp; rfl)); go_simp)
        (refine h_read 1 rfl (by kernel_rfl) (by kernel_rfl) (h_free rfl) ?_ ?_ ?_; rotate_left; (focus (intro v hv; go_simp; rfl)); go_simp)
        (refine h_read 2 rfl (by kernel_rfl) (by kernel_rfl) (h_free rfl) ?_ ?_ ?_; rotate_left; (focus (intro v hv; go_simp; rfl)); go_simp)
        (refine h_read 3 rfl (by kernel_rfl) (by kernel_rfl) (h_free rfl) ?_ ?_ ?_; rotate_left; (focus (intro v hv; refine run_cells 45 (.tmp 21) ?_ b (o + k * 6) ?_ (snC xs xn xb xt xk xa xm xc) _ (fun j' u hj => by rw [hv.cell (p := ⟨b, o + k * 6 + j', none⟩) (World.block_lt_of_cell? wr _ (X1.out j' u hj))]; exact X1.out j' u hj) Tryz.underlying45 rfl sn_size; (focus rfl); go_simp)); go_simp)
        (refine h_read 4 rfl (by kernel_rfl) (by kernel_rfl) (h_free rfl) ?_ ?_ ?_; rotate_left; (focus (intro v hv; go_simp; rfl)); go_simp)
        (refine h_read 5 rfl (by kernel_rfl) (by kernel_rfl) (h_free rfl) ?_ ?_ ?_; rotate_left; (focus (intro v hv; go_simp; rfl)); go_simp)
        (refine h_read 6 rfl (by kernel_rfl) (by kernel_rfl) (h_free rfl) ?_ ?_ ?_; rotate_left; (focus (intro v hv; go_simp; rfl)); go_simp)
        (refine h_read 7 rfl (by kernel_rfl) (by kernel_rfl) (h_free rfl) ?_ ?_ ?_; rotate_left; (focus (intro v hv; refine run_cells 45 (.tmp 25) ?_ b' (o' + k * 6) ?_ (snC xs yn yb yt yk ya ym yc) _ (fun j' u hj => by rw [hv.cell (p := ⟨b', o' + k * 6 + j', none⟩) (World.block_lt_of_cell? wr _ (X2.out j' u hj))]; exact X2.out j' u hj) Tryz.underlying45 rfl sn_size; (focus rfl); go_simp)); go_simp)
        refine h_two 8 9 rfl rfl (by kernel_rfl) ?_ ?_
        · intro K hK
          refine alloc_row rfl _ rfl _ MZ.out ?_
          intro w1 hr hb hz
          have RA := Lib.hid hr; have BA := Lib.hid (D0.out.trans (hb.mono D0.out.size)); have SA := Lib.hid (show wd.heap.size < w1.heap.size by omega)
          clear hr hb hz
          go_wp2_with fail
          refine hK _ _ BA.out ?_
          clear hK K
          (refine h_list 9 rfl (by kernel_rfl) ?_; intro K hK)
          refine alloc_row rfl _ rfl _ MZ.out ?_
          intro w2 hr hb hz
          have RB := Lib.hid hr; have RA2 := Lib.hid (RA.out.below hb RA.out.lt); have BB := Lib.hid (BA.out.trans (hb.mono BA.out.size))
          clear hr hb hz
          go_wp2_with fail
          refine hK _ _ BB.out ?_
          clear hK K
          (refine h_list 10 rfl (by kernel_rfl) ?_; intro K hK)
          refine store_row rfl _ (.tmp 6) _ rfl wd.heap.size (snC xs xn xb xt xk xa xm xc) ?_ ?_ 45 _ RA2.out SZ.out rfl (sn_one _ _ _ _ _ _ _ _) ?_
          · go_simp
          · first | (go_simp; done) | (go_simp; rfl)
          intro w3 hr hu
          have R63 := Lib.hid hr; have R73 := Lib.hid (RB.out.upd hu (Nat.ne_of_gt SA.out)); have BC := Lib.hid (BB.out.trans (hu.below D0.out.size))
          clear hr hu
          go_wp2_with fail
          refine hK _ _ BC.out ?_
          clear hK K
          (refine h_list 11 rfl (by kernel_rfl) ?_; intro K hK)
          refine store_row rfl _ (.tmp 7) _ rfl w1.heap.size (snC xs yn yb yt yk ya ym yc) ?_ ?_ 45 _ R73.out SZ.out rfl (sn_one _ _ _ _ _ _ _ _) ?_
          · go_simp
          · first | (go_simp; done) | (go_simp; rfl)
          intro w4 hr hu
          obtain ⟨e0, e1, e2, e3, e4, e5⟩ := hr.h6s
          obtain ⟨c0, c1, c2, c3, c4, c5⟩ := (R63.out.upd hu (Nat.ne_of_lt SA.out)).h6s
          have BD := Lib.hid (BC.out.trans (hu.below BA.out.size))
          clear hr hu
          go_wp2_with fail
          refine hK _ _ BD.out ?_
          clear hK K
          refine h_done (by kernel_rfl) ?_
          have BE := Lib.hid (B.out.trans (BD.out.mono B.out.size))
          go_wp2_with fail
          go_ret
          exact ⟨one (vbool (by rw [HF.out])), BE.out⟩
        · intro K hK
          refine alloc_row rfl _ rfl _ MZ.out ?_
          intro w1 hr hb hz
          have RA := Lib.hid hr; have BA := Lib.hid (D0.out.trans (hb.mono D0.out.size)); have SA := Lib.hid (show wd.heap.size < w1.heap.size by omega)
          clear hr hb hz
          go_wp2_with fail
          refine hK _ _ BA.out ?_
          clear hK K
          (refine h_list 8 rfl (by kernel_rfl) ?_; intro K hK)
          refine alloc_row rfl _ rfl _ MZ.out ?_
          intro w2 hr hb hz
          have RB := Lib.hid hr; have RA2 := Lib.hid (RA.out.below hb RA.out.lt); have BB := Lib.hid (BA.out.trans (hb.mono BA.out.size))
          clear hr hb hz
          go_wp2_with fail
          refine hK _ _ BB.out ?_
          clear hK K
          (refine h_list 10 rfl (by kernel_rfl) ?_; intro K hK)
          refine store_row rfl _ (.tmp 6) _ rfl w1.heap.size (snC xs xn xb xt xk xa xm xc) ?_ ?_ 45 _ RB.out SZ.out rfl (sn_one _ _ _ _ _ _ _ _) ?_
          · go_simp
          · first | (go_simp; done) | (go_simp; rfl)
          intro w3 hr hu
          have R63 := Lib.hid hr; have R73 := Lib.hid (RA2.out.upd hu (Nat.ne_of_lt SA.out)); have BC := Lib.hid (BB.out.trans (hu.below BA.out.size))
          clear hr hu
          go_wp2_with fail
          refine hK _ _ BC.out ?_
          clear hK K
          (refine h_list 11 rfl (by kernel_rfl) ?_; intro K hK)
          refine store_row rfl _ (.tmp 7) _ rfl wd.heap.size (snC xs yn yb yt yk ya ym yc) ?_ ?_ 45 _ R73.out SZ.out rfl (sn_one _ _ _ _ _ _ _ _) ?_
          · go_simp
          · first | (go_simp; done) | (go_simp; rfl)
          intro w4 hr hu
          obtain ⟨e0, e1, e2, e3, e4, e5⟩ := hr.h6s
          obtain ⟨c0, c1, c2, c3, c4, c5⟩ := (R63.out.upd hu (Nat.ne_of_gt SA.out)).h6s
          have BD := Lib.hid (BC.out.trans (hu.below D0.out.size))
          clear hr hu
          go_wp2_with fail
          refine hK _ _ BD.out ?_
          clear hK K
          refine h_done (by kernel_rfl) ?_
          have BE := Lib.hid (B.out.trans (BD.out.mono B.out.size))
          go_wp2_with fail
          go_ret
          exact ⟨one (vbool (by rw [HF.out])), BE.out⟩
      subst h1
      by_cases h2 : xb = yb
      rotate_left
      · have HF := Lib.hid (show V = false from HBD.out (by
          cases hh : d with
          | false => rfl
          | true => exact absurd (congrArg Sn.by' (hd.1 hh)) h2))
        have hbb : (xb == yb) = false := beq_eq_false_iff_ne.2 h2
        clear hd HNX HBD
        clear hP hQ
        go_wp2_with fail
        refine region_h (fun v => Below wr.heap.size wr v) (by kernel_rfl) (by kernel_rfl) (Below.refl _ _).drew ?_
        obtain ⟨wd, hwd⟩ : ∃ wd, wr.drew = wd := ⟨_, rfl⟩
        have D0 : Hid (Below wr.heap.size wr wd) := Lib.hid (by rw [← hwd]; exact (Below.refl _ _).drew)
        rw [hwd]
        clear hwd
        (refine h_read 0 rfl (by kernel_rfl) (by kernel_rfl) (h_free rfl) ?_ ?_ ?_; rotate_left; (focus (intro v hv; go_simp; rfl)); go_simp)
        (refine h_read 1 rfl (by kernel_rfl) (by kernel_rfl) (h_free rfl) ?_ ?_ ?_; rotate_left; (focus (intro v hv; go_simp; rfl)); go_simp)
        (refine h_read 2 rfl (by kernel_rfl) (by kernel_rfl) (h_free rfl) ?_ ?_ ?_; rotate_left; (focus (intro v hv; go_simp; rfl)); go_simp)
        (refine h_read 3 rfl (by kernel_rfl) (by kernel_rfl) (h_free rfl) ?_ ?_ ?_; rotate_left; (focus (intro v hv; refine run_cells 45 (.tmp 21) ?_ b (o + k * 6) ?_ (snC xs xn xb xt xk xa xm xc) _ (fun j' u hj => by rw [hv.cell (p := ⟨b, o + k * 6 + j', none⟩) (World.block_lt_of_cell? wr _ (X1.out j' u hj))]; exact X1.out j' u hj) Tryz.underlying45 rfl sn_size; (focus rfl); go_simp)); go_simp)
        (refine h_read 4 rfl (by kernel_rfl) (by kernel_rfl) (h_free rfl) ?_ ?_ ?_; rotate_left; (focus (intro v hv; go_simp; rfl)); go_simp)
        (refine h_read 5 rfl (by kernel_rfl) (by kernel_rfl) (h_free rfl) ?_ ?_ ?_; rotate_left; (focus (intro v hv; go_simp; rfl)); go_simp)
        (refine h_read 6 rfl (by kernel_rfl) (by kernel_rfl) (h_free rfl) ?_ ?_ ?_; rotate_left; (focus (intro v hv; go_simp; rfl)); go_simp)
        (refine h_read 7 rfl (by kernel_rfl) (by kernel_rfl) (h_free rfl) ?_ ?_ ?_; rotate_left; (focus (intro v hv; refine run_cells 45 (.tmp 25) ?_ b' (o' + k * 6) ?_ (snC xs xn yb yt yk ya ym yc) _ (fun j' u hj => by rw [hv.cell (p := ⟨b', o' + k * 6 + j', none⟩) (World.block_lt_of_cell? wr _ (X2.out j' u hj))]; exact X2.out j' u hj) Tryz.underlying45 rfl sn_size; (focus rfl); go_simp)); go_simp)
        refine h_two 8 9 rfl rfl (by kernel_rfl) ?_ ?_
        · intro K hK
          refine alloc_row rfl _ rfl _ MZ.out ?_
          intro w1 hr hb hz
          have RA := Lib.hid hr; have BA := Lib.hid (D0.out.trans (hb.mono D0.out.size)); have SA := Lib.hid (show wd.heap.size < w1.heap.size by omega)
          clear hr hb hz
          go_wp2_with fail
          refine hK _ _ BA.out ?_
          clear hK K
          (refine h_list 9 rfl (by kernel_rfl) ?_; intro K hK)
          refine alloc_row rfl _ rfl _ MZ.out ?_
          intro w2 hr hb hz
          have RB := Lib.hid hr; have RA2 := Lib.hid (RA.out.below hb RA.out.lt); have BB := Lib.hid (BA.out.trans (hb.mono BA.out.size))
          clear hr hb hz
          go_wp2_with fail
          refine hK _ _ BB.out ?_
          clear hK K
          (refine h_list 10 rfl (by kernel_rfl) ?_; intro K hK)
          refine store_row rfl _ (.tmp 6) _ rfl wd.heap.size (snC xs xn xb xt xk xa xm xc) ?_ ?_ 45 _ RA2.out SZ.out rfl (sn_one _ _ _ _ _ _ _ _) ?_
          · go_simp
          · first | (go_simp; done) | (go_simp; rfl)
          intro w3 hr hu
          have R63 := Lib.hid hr; have R73 := Lib.hid (RB.out.upd hu (Nat.ne_of_gt SA.out)); have BC := Lib.hid (BB.out.trans (hu.below D0.out.size))
          clear hr hu
          go_wp2_with fail
          refine hK _ _ BC.out ?_
          clear hK K
          (refine h_list 11 rfl (by kernel_rfl) ?_; intro K hK)
          refine store_row rfl _ (.tmp 7) _ rfl w1.heap.size (snC xs xn yb yt yk ya ym yc) ?_ ?_ 45 _ R73.out SZ.out rfl (sn_one _ _ _ _ _ _ _ _) ?_
          · go_simp
          · first | (go_simp; done) | (go_simp; rfl)
          intro w4 hr hu
          obtain ⟨e0, e1, e2, e3, e4, e5⟩ := hr.h6s
          obtain ⟨c0, c1, c2, c3, c4, c5⟩ := (R63.out.upd hu (Nat.ne_of_lt SA.out)).h6s
          have BD := Lib.hid (BC.out.trans (hu.below BA.out.size))
          clear hr hu
          go_wp2_with fail
          refine hK _ _ BD.out ?_
          clear hK K
          refine h_done (by kernel_rfl) ?_
          have BE := Lib.hid (B.out.trans (BD.out.mono B.out.size))
          go_wp2_with fail
          go_ret
          exact ⟨one (vbool (by rw [HF.out])), BE.out⟩
        · intro K hK
          refine alloc_row rfl _ rfl _ MZ.out ?_
          intro w1 hr hb hz
          have RA := Lib.hid hr; have BA := Lib.hid (D0.out.trans (hb.mono D0.out.size)); have SA := Lib.hid (show wd.heap.size < w1.heap.size by omega)
          clear hr hb hz
          go_wp2_with fail
          refine hK _ _ BA.out ?_
          clear hK K
          (refine h_list 8 rfl (by kernel_rfl) ?_; intro K hK)
          refine alloc_row rfl _ rfl _ MZ.out ?_
          intro w2 hr hb hz
          have RB := Lib.hid hr; have RA2 := Lib.hid (RA.out.below hb RA.out.lt); have BB := Lib.hid (BA.out.trans (hb.mono BA.out.size))
          clear hr hb hz
          go_wp2_with fail
          refine hK _ _ BB.out ?_
          clear hK K
          (refine h_list 10 rfl (by kernel_rfl) ?_; intro K hK)
          refine store_row rfl _ (.tmp 6) _ rfl w1.heap.size (snC xs xn xb xt xk xa xm xc) ?_ ?_ 45 _ RB.out SZ.out rfl (sn_one _ _ _ _ _ _ _ _) ?_
          · go_simp
          · first | (go_simp; done) | (go_simp; rfl)
          intro w3 hr hu
          have R63 := Lib.hid hr; have R73 := Lib.hid (RA2.out.upd hu (Nat.ne_of_lt SA.out)); have BC := Lib.hid (BB.out.trans (hu.below BA.out.size))
          clear hr hu
          go_wp2_with fail
          refine hK _ _ BC.out ?_
          clear hK K
          (refine h_list 11 rfl (by kernel_rfl) ?_; intro K hK)
          refine store_row rfl _ (.tmp 7) _ rfl wd.heap.size (snC xs xn yb yt yk ya ym yc) ?_ ?_ 45 _ R73.out SZ.out rfl (sn_one _ _ _ _ _ _ _ _) ?_
          · go_simp
          · first | (go_simp; done) | (go_simp; rfl)
          intro w4 hr hu
          obtain ⟨e0, e1, e2, e3, e4, e5⟩ := hr.h6s
          obtain ⟨c0, c1, c2, c3, c4, c5⟩ := (R63.out.upd hu (Nat.ne_of_gt SA.out)).h6s
          have BD := Lib.hid (BC.out.trans (hu.below D0.out.size))
          clear hr hu
          go_wp2_with fail
          refine hK _ _ BD.out ?_
          clear hK K
          refine h_done (by kernel_rfl) ?_
          have BE := Lib.hid (B.out.trans (BD.out.mono B.out.size))
          go_wp2_with fail
          go_ret
          exact ⟨one (vbool (by rw [HF.out])), BE.out⟩
      subst h2
      by_cases h3 : xt = yt
      rotate_left
      · have HF := Lib.hid (show V = false from HBD.out (by
          cases hh : d with
          | false => rfl
          | true => exact absurd (congrArg Sn.ti (hd.1 hh)) h3))
        have hbb : (xt == yt) = false := beq_eq_false_iff_ne.2 h3
        clear hd HNX HBD
        clear hP hQ
        go_wp2_with fail
        refine region_h (fun v => Below wr.heap.size wr v) (by kernel_rfl) (by kernel_rfl) (Below.refl _ _).drew ?_
        obtain ⟨wd, hwd⟩ : ∃ wd, wr.drew = wd := ⟨_, rfl⟩
        have D0 : Hid (Below wr.heap.size wr wd) := Lib.hid (by rw [← hwd]; exact (Below.refl _ _).drew)
        rw [hwd]
        clear hwd
        (refine h_read 0 rfl (by kernel_rfl) (by kernel_rfl) (h_free rfl) ?_ ?_ ?_; rotate_left; (focus (intro v hv; go_simp; rfl)); go_simp)
        (refine h_read 1 rfl (by kernel_rfl) (by kernel_rfl) (h_free rfl) ?_ ?_ ?_; rotate_left; (focus (intro v hv; go_simp; rfl)); go_simp)
        (refine h_read 2 rfl (by kernel_rfl) (by kernel_rfl) (h_free rfl) ?_ ?_ ?_; rotate_left; (focus (intro v hv; go_simp; rfl)); go_simp)
        (refine h_read 3 rfl (by kernel_rfl) (by kernel_rfl) (h_free rfl) ?_ ?_ ?_; rotate_left; (focus (intro v hv; refine run_cells 45 (.tmp 21) ?_ b (o + k * 6) ?_ (snC xs xn xb xt xk xa xm xc) _ (fun j' u hj => by rw [hv.cell (p := ⟨b, o + k * 6 + j', none⟩) (World.block_lt_of_cell? wr _ (X1.out j' u hj))]; exact X1.out j' u hj) Tryz.underlying45 rfl sn_size; (focus rfl); go_simp)); go_simp)
        (refine h_read 4 rfl (by kernel_rfl) (by kernel_rfl) (h_free rfl) ?_ ?_ ?_; rotate_left; (focus (intro v hv; go_simp; rfl)); go_simp)
        (refine h_read 5 rfl (by kernel_rfl) (by kernel_rfl) (h_free rfl) ?_ ?_ ?_; rotate_left; (focus (intro v hv; go_simp; rfl)); go_simp)
        (refine h_read 6 rfl (by kernel_rfl) (by kernel_rfl) (h_free rfl) ?_ ?_ ?_; rotate_left; (focus (intro v hv; go_simp; rfl)); go_simp)
        (refine h_read 7 rfl (by kernel_rfl) (by kernel_rfl) (h_free rfl) ?_ ?_ ?_; rotate_left; (focus (intro v hv; refine run_cells 45 (.tmp 25) ?_ b' (o' + k * 6) ?_ (snC xs xn xb yt yk ya ym yc) _ (fun j' u hj => by rw [hv.cell (p := ⟨b', o' + k * 6 + j', none⟩) (World.block_lt_of_cell? wr _ (X2.out j' u hj))]; exact X2.out j' u hj) Tryz.underlying45 rfl sn_size; (focus rfl); go_simp)); go_simp)
        refine h_two 8 9 rfl rfl (by kernel_rfl) ?_ ?_
        · intro K hK
          refine alloc_row rfl _ rfl _ MZ.out ?_
          intro w1 hr hb hz
          have RA := Lib.hid hr; have BA := Lib.hid (D0.out.trans (hb.mono D0.out.size)); have SA := Lib.hid (show wd.heap.size < w1.heap.size by omega)
          clear hr hb hz
          go_wp2_with fail
          refine hK _ _ BA.out ?_
          clear hK K
          (refine h_list 9 rfl (by kernel_rfl) ?_; intro K hK)
          refine alloc_row rfl _ rfl _ MZ.out ?_
          intro w2 hr hb hz
          have RB := Lib.hid hr; have RA2 := Lib.hid (RA.out.below hb RA.out.lt); have BB := Lib.hid (BA.out.trans (hb.mono BA.out.size))
          clear hr hb hz
          go_wp2_with fail
          refine hK _ _ BB.out ?_
          clear hK K
          (refine h_list 10 rfl (by kernel_rfl) ?_; intro K hK)
          refine store_row rfl _ (.tmp 6) _ rfl wd.heap.size (snC xs xn xb xt xk xa xm xc) ?_ ?_ 45 _ RA2.out SZ.out rfl (sn_one _ _ _ _ _ _ _ _) ?_
          · go_simp
          · first | (go_simp; done) | (go_simp; rfl)
          intro w3 hr hu
          have R63 := Lib.hid hr; have R73 := Lib.hid (RB.out.upd hu (Nat.ne_of_gt SA.out)); have BC := Lib.hid (BB.out.trans (hu.below D0.out.size))
          clear hr hu
          go_wp2_with fail
          refine hK _ _ BC.out ?_
          clear hK K
          (refine h_list 11 rfl (by kernel_rfl) ?_; intro K hK)
          refine store_row rfl _ (.tmp 7) _ rfl w1.heap.size (snC xs xn xb yt yk ya ym yc) ?_ ?_ 45 _ R73.out SZ.out rfl (sn_one _ _ _ _ _ _ _ _) ?_
          · go_simp
          · first | (go_simp; done) | (go_simp; rfl)
          intro w4 hr hu
          obtain ⟨e0, e1, e2, e3, e4, e5⟩ := hr.h6s
          obtain ⟨c0, c1, c2, c3, c4, c5⟩ := (R63.out.upd hu (Nat.ne_of_lt SA.out)).h6s
          have BD := Lib.hid (BC.out.trans (hu.below BA.out.size))
          clear hr hu
          go_wp2_with fail
          refine hK _ _ BD.out ?_
          clear hK K
          refine h_done (by kernel_rfl) ?_
          have BE := Lib.hid (B.out.trans (BD.out.mono B.out.size))
          go_wp2_with fail
          go_ret
          exact ⟨one (vbool (by rw [HF.out])), BE.out⟩
        · intro K hK
          refine alloc_row rfl _ rfl _ MZ.out ?_
          intro w1 hr hb hz
          have RA := Lib.hid hr; have BA := Lib.hid (D0.out.trans (hb.mono D0.out.size)); have SA := Lib.hid (show wd.heap.size < w1.heap.size by omega)
          clear hr hb hz
          go_wp2_with fail
          refine hK _ _ BA.out ?_
          clear hK K
          (refine h_list 8 rfl (by kernel_rfl) ?_; intro K hK)
          refine alloc_row rfl _ rfl _ MZ.out ?_
          intro w2 hr hb hz
          have RB := Lib.hid hr; have RA2 := Lib.hid (RA.out.below hb RA.out.lt); have BB := Lib.hid (BA.out.trans (hb.mono BA.out.size))
          clear hr hb hz
          go_wp2_with fail
          refine hK _ _ BB.out ?_
          clear hK K
          (refine h_list 10 rfl (by kernel_rfl) ?_; intro K hK)
          refine store_row rfl _ (.tmp 6) _ rfl w1.heap.size (snC xs xn xb xt xk xa xm xc) ?_ ?_ 45 _ RB.out SZ.out rfl (sn_one _ _ _ _ _ _ _ _) ?_
          · go_simp
          · first | (go_simp; done) | (go_simp; rfl)
          intro w3 hr hu
          have R63 := Lib.hid hr; have R73 := Lib.hid (RA2.out.upd hu (Nat.ne_of_lt SA.out)); have BC := Lib.hid (BB.out.trans (hu.below BA.out.size))
          clear hr hu
          go_wp2_with fail
          refine hK _ _ BC.out ?_
          clear hK K
          (refine h_list 11 rfl (by kernel_rfl) ?_; intro K hK)
          refine store_row rfl _ (.tmp 7) _ rfl wd.heap.size (snC xs xn xb yt yk ya ym yc) ?_ ?_ 45 _ R73.out SZ.out rfl (sn_one _ _ _ _ _ _ _ _) ?_
          · go_simp
          · first | (go_simp; done) | (go_simp; rfl)
          intro w4 hr hu
          obtain ⟨e0, e1, e2, e3, e4, e5⟩ := hr.h6s
          obtain ⟨c0, c1, c2, c3, c4, c5⟩ := (R63.out.upd hu (Nat.ne_of_gt SA.out)).h6s
          have BD := Lib.hid (BC.out.trans (hu.below D0.out.size))
          clear hr hu
          go_wp2_with fail
          refine hK _ _ BD.out ?_
          clear hK K
          refine h_done (by kernel_rfl) ?_
          have BE := Lib.hid (B.out.trans (BD.out.mono B.out.size))
          go_wp2_with fail
          go_ret
          exact ⟨one (vbool (by rw [HF.out])), BE.out⟩
      subst h3
      by_cases h4 : xk = yk
      rotate_left
      · have HF := Lib.hid (show V = false from HBD.out (by
          cases hh : d with
          | false => rfl
          | true => exact absurd (congrArg Sn.ke (hd.1 hh)) h4))
        have hbb : (xk == yk) = false := beq_eq_false_iff_ne.2 h4
        clear hd HNX HBD
        clear hP hQ
        go_wp2_with fail
        refine region_h (fun v => Below wr.heap.size wr v) (by kernel_rfl) (by kernel_rfl) (Below.refl _ _).drew ?_
        obtain ⟨wd, hwd⟩ : ∃ wd, wr.drew = wd := ⟨_, rfl⟩
        have D0 : Hid (Below wr.heap.size wr wd) := Lib.hid (by rw [← hwd]; exact (Below.refl _ _).drew)
        rw [hwd]
        clear hwd
        (refine h_read 0 rfl (by kernel_rfl) (by kernel_rfl) (h_free rfl) ?_ ?_ ?_; rotate_left; (focus (intro v hv; go_simp; rfl)); go_simp)
        (refine h_read 1 rfl (by kernel_rfl) (by kernel_rfl) (h_free rfl) ?_ ?_ ?_; rotate_left; (focus (intro v hv; go_simp; rfl)); go_simp)
        (refine h_read 2 rfl (by kernel_rfl) (by kernel_rfl) (h_free rfl) ?_ ?_ ?_; rotate_left; (focus (intro v hv; go_simp; rfl)); go_simp)
        (refine h_read 3 rfl (by kernel_rfl) (by kernel_rfl) (h_free rfl) ?_ ?_ ?_; rotate_left; (focus (intro v hv; refine run_cells 45 (.tmp 21) ?_ b (o + k * 6) ?_ (snC xs xn xb xt xk xa xm xc) _ (fun j' u hj => by rw [hv.cell (p := ⟨b, o + k * 6 + j', none⟩) (World.block_lt_of_cell? wr _ (X1.out j' u hj))]; exact X1.out j' u hj) Tryz.underlying45 rfl sn_size; (focus rfl); go_simp)); go_simp)
        (refine h_read 4 rfl (by kernel_rfl) (by kernel_rfl) (h_free rfl) ?_ ?_ ?_; rotate_left; (focus (intro v hv; go_simp; rfl)); go_simp)
        (refine h_read 5 rfl (by kernel_rfl) (by kernel_rfl) (h_free rfl) ?_ ?_ ?_; rotate_left; (focus (intro v hv; go_simp; rfl)); go_simp)
        (refine h_read 6 rfl (by kernel_rfl) (by kernel_rfl) (h_free rfl) ?_ ?_ ?_; rotate_left; (focus (intro v hv; go_simp; rfl)); go_simp)
        (refine h_read 7 rfl (by kernel_rfl) (by kernel_rfl) (h_free rfl) ?_ ?_ ?_; rotate_left; (focus (intro v hv; refine run_cells 45 (.tmp 25) ?_ b' (o' + k * 6) ?_ (snC xs xn xb xt yk ya ym yc) _ (fun j' u hj => by rw [hv.cell (p := ⟨b', o' + k * 6 + j', none⟩) (World.block_lt_of_cell? wr _ (X2.out j' u hj))]; exact X2.out j' u hj) Tryz.underlying45 rfl sn_size; (focus rfl); go_simp)); go_simp)
        refine h_two 8 9 rfl rfl (by kernel_rfl) ?_ ?_
        · intro K hK
          refine alloc_row rfl _ rfl _ MZ.out ?_
          intro w1 hr hb hz
          have RA := Lib.hid hr; have BA := Lib.hid (D0.out.trans (hb.mono D0.out.size)); have SA := Lib.hid (show wd.heap.size < w1.heap.size by omega)
          clear hr hb hz
          go_wp2_with fail
          refine hK _ _ BA.out ?_
          clear hK K
          (refine h_list 9 rfl (by kernel_rfl) ?_; intro K hK)
          refine alloc_row rfl _ rfl _ MZ.out ?_
          intro w2 hr hb hz
          have RB := Lib.hid hr; have RA2 := Lib.hid (RA.out.below hb RA.out.lt); have BB := Lib.hid (BA.out.trans (hb.mono BA.out.size))
          clear hr hb hz
          go_wp2_with fail
          refine hK _ _ BB.out ?_
          clear hK K
          (refine h_list 10 rfl (by kernel_rfl) ?_; intro K hK)
          refine store_row rfl _ (.tmp 6) _ rfl wd.heap.size (snC xs xn xb xt xk xa xm xc) ?_ ?_ 45 _ RA2.out SZ.out rfl (sn_one _ _ _ _ _ _ _ _) ?_
          · go_simp
          · first | (go_simp; done) | (go_simp; rfl)
          intro w3 hr hu
          have R63 := Lib.hid hr; have R73 := Lib.hid (RB.out.upd hu (Nat.ne_of_gt SA.out)); have BC := Lib.hid (BB.out.trans (hu.below D0.out.size))
          clear hr hu
          go_wp2_with fail
          refine hK _ _ BC.out ?_
          clear hK K
          (refine h_list 11 rfl (by kernel_rfl) ?_; intro K hK)
          refine store_row rfl _ (.tmp 7) _ rfl w1.heap.size (snC xs xn xb xt yk ya ym yc) ?_ ?_ 45 _ R73.out SZ.out rfl (sn_one _ _ _ _ _ _ _ _) ?_
          · go_simp
          · first | (go_simp; done) | (go_simp; rfl)
          intro w4 hr hu
          obtain ⟨e0, e1, e2, e3, e4, e5⟩ := hr.h6s
          obtain ⟨c0, c1, c2, c3, c4, c5⟩ := (R63.out.upd hu (Nat.ne_of_lt SA.out)).h6s
          have BD := Lib.hid (BC.out.trans (hu.below BA.out.size))
          clear hr hu
          go_wp2_with fail
          refine hK _ _ BD.out ?_
          clear hK K
          refine h_done (by kernel_rfl) ?_
          have BE := Lib.hid (B.out.trans (BD.out.mono B.out.size))
          go_wp2_with fail
          go_ret
          exact ⟨one (vbool (by rw [HF.out])), BE.out⟩
        · intro K hK
          refine alloc_row rfl _ rfl _ MZ.out ?_
          intro w1 hr hb hz
          have RA := Lib.hid hr; have BA := Lib.hid (D0.out.trans (hb.mono D0.out.size)); have SA := Lib.hid (show wd.heap.size < w1.heap.size by omega)
          clear hr hb hz
          go_wp2_with fail
          refine hK _ _ BA.out ?_
          clear hK K
          (refine h_list 8 rfl (by kernel_rfl) ?_; intro K hK)
          refine alloc_row rfl _ rfl _ MZ.out ?_
          intro w2 hr hb hz
          have RB := Lib.hid hr; have RA2 := Lib.hid (RA.out.below hb RA.out.lt); have BB := Lib.hid (BA.out.trans (hb.mono BA.out.size))
          clear hr hb hz
          go_wp2_with fail
          refine hK _ _ BB.out ?_
          clear hK K
          (refine h_list 10 rfl (by kernel_rfl) ?_; intro K hK)
          refine store_row rfl _ (.tmp 6) _ rfl w1.heap.size (snC xs xn xb xt xk xa xm xc) ?_ ?_ 45 _ RB.out SZ.out rfl (sn_one _ _ _ _ _ _ _ _) ?_
          · go_simp
          · first | (go_simp; done) | (go_simp; rfl)
          intro w3 hr hu
          have R63 := Lib.hid hr; have R73 := Lib.hid (RA2.out.upd hu (Nat.ne_of_lt SA.out)); have BC := Lib.hid (BB.out.trans (hu.below BA.out.size))
          clear hr hu
          go_wp2_with fail
          refine hK _ _ BC.out ?_
          clear hK K
          (refine h_list 11 rfl (by kernel_rfl) ?_; intro K hK)
          refine store_row rfl _ (.tmp 7) _ rfl wd.heap.size (snC xs xn xb xt yk ya ym yc) ?_ ?_ 45 _ R73.out SZ.out rfl (sn_one _ _ _ _ _ _ _ _) ?_
          · go_simp
          · first | (go_simp; done) | (go_simp; rfl)
          intro w4 hr hu
          obtain ⟨e0, e1, e2, e3, e4, e5⟩ := hr.h6s
          obtain ⟨c0, c1, c2, c3, c4, c5⟩ := (R63.out.upd hu (Nat.ne_of_gt SA.out)).h6s
          have BD := Lib.hid (BC.out.trans (hu.below D0.out.size))
          clear hr hu
          go_wp2_with fail
          refine hK _ _ BD.out ?_
          clear hK K
          refine h_done (by kernel_rfl) ?_
          have BE := Lib.hid (B.out.trans (BD.out.mono B.out.size))
          go_wp2_with fail
          go_ret
          exact ⟨one (vbool (by rw [HF.out])), BE.out⟩
      subst h4
      by_cases h5 : P = Q
      rotate_left
      · have HF := Lib.hid (show V = false from HBD.out (by
          cases hh : d with
          | false => rfl
          | true => exact absurd (congrArg Sn.P (hd.1 hh)) h5))
        clear hd HNX HBD
        have HSP := Lib.hid (fun w' (hb : Below w.heap.size w w') => usamepV xa ya xm xc ym yc P Q false w' (hP.mono pcOk hb) (hQ.mono pcOk hb) (by simp [h5]))
        clear hP hQ
        go_wp2_with fail
        refine region_h (fun v => Below wr.heap.size wr v) (by kernel_rfl) (by kernel_rfl) (Below.refl _ _).drew ?_
        obtain ⟨wd, hwd⟩ : ∃ wd, wr.drew = wd := ⟨_, rfl⟩
        have D0 : Hid (Below wr.heap.size wr wd) := Lib.hid (by rw [← hwd]; exact (Below.refl _ _).drew)
        rw [hwd]
        clear hwd
        (refine h_read 0 rfl (by kernel_rfl) (by kernel_rfl) (h_free rfl) ?_ ?_ ?_; rotate_left; (focus (intro v hv; go_simp; rfl)); go_simp)
        (refine h_read 1 rfl (by kernel_rfl) (by kernel_rfl) (h_free rfl) ?_ ?_ ?_; rotate_left; (focus (intro v hv; go_simp; rfl)); go_simp)
        (refine h_read 2 rfl (by kernel_rfl) (by kernel_rfl) (h_free rfl) ?_ ?_ ?_; rotate_left; (focus (intro v hv; go_simp; rfl)); go_simp)
        (refine h_read 3 rfl (by kernel_rfl) (by kernel_rfl) (h_free rfl) ?_ ?_ ?_; rotate_left; (focus (intro v hv; refine run_cells 45 (.tmp 21) ?_ b (o + k * 6) ?_ (snC xs xn xb xt xk xa xm xc) _ (fun j' u hj => by rw [hv.cell (p := ⟨b, o + k * 6 + j', none⟩) (World.block_lt_of_cell? wr _ (X1.out j' u hj))]; exact X1.out j' u hj) Tryz.underlying45 rfl sn_size; (focus rfl); go_simp)); go_simp)
        (refine h_read 4 rfl (by kernel_rfl) (by kernel_rfl) (h_free rfl) ?_ ?_ ?_; rotate_left; (focus (intro v hv; go_simp; rfl)); go_simp)
        (refine h_read 5 rfl (by kernel_rfl) (by kernel_rfl) (h_free rfl) ?_ ?_ ?_; rotate_left; (focus (intro v hv; go_simp; rfl)); go_simp)
        (refine h_read 6 rfl (by kernel_rfl) (by kernel_rfl) (h_free rfl) ?_ ?_ ?_; rotate_left; (focus (intro v hv; go_simp; rfl)); go_simp)
        (refine h_read 7 rfl (by kernel_rfl) (by kernel_rfl) (h_free rfl) ?_ ?_ ?_; rotate_left; (focus (intro v hv; refine run_cells 45 (.tmp 25) ?_ b' (o' + k * 6) ?_ (snC xs xn xb xt xk ya ym yc) _ (fun j' u hj => by rw [hv.cell (p := ⟨b', o' + k * 6 + j', none⟩) (World.block_lt_of_cell? wr _ (X2.out j' u hj))]; exact X2.out j' u hj) Tryz.underlying45 rfl sn_size; (focus rfl); go_simp)); go_simp)
        refine h_two 8 9 rfl rfl (by kernel_rfl) ?_ ?_
        · intro K hK
          refine alloc_row rfl _ rfl _ MZ.out ?_
          intro w1 hr hb hz
          have RA := Lib.hid hr; have BA := Lib.hid (D0.out.trans (hb.mono D0.out.size)); have SA := Lib.hid (show wd.heap.size < w1.heap.size by omega)
          clear hr hb hz
          go_wp2_with fail
          refine hK _ _ BA.out ?_
          clear hK K
          (refine h_list 9 rfl (by kernel_rfl) ?_; intro K hK)
          refine alloc_row rfl _ rfl _ MZ.out ?_
          intro w2 hr hb hz
          have RB := Lib.hid hr; have RA2 := Lib.hid (RA.out.below hb RA.out.lt); have BB := Lib.hid (BA.out.trans (hb.mono BA.out.size))
          clear hr hb hz
          go_wp2_with fail
          refine hK _ _ BB.out ?_
          clear hK K
          (refine h_list 10 rfl (by kernel_rfl) ?_; intro K hK)
          refine store_row rfl _ (.tmp 6) _ rfl wd.heap.size (snC xs xn xb xt xk xa xm xc) ?_ ?_ 45 _ RA2.out SZ.out rfl (sn_one _ _ _ _ _ _ _ _) ?_
          · go_simp
          · first | (go_simp; done) | (go_simp; rfl)
          intro w3 hr hu
          have R63 := Lib.hid hr; have R73 := Lib.hid (RB.out.upd hu (Nat.ne_of_gt SA.out)); have BC := Lib.hid (BB.out.trans (hu.below D0.out.size))
          clear hr hu
          go_wp2_with fail
          refine hK _ _ BC.out ?_
          clear hK K
          (refine h_list 11 rfl (by kernel_rfl) ?_; intro K hK)
          refine store_row rfl _ (.tmp 7) _ rfl w1.heap.size (snC xs xn xb xt xk ya ym yc) ?_ ?_ 45 _ R73.out SZ.out rfl (sn_one _ _ _ _ _ _ _ _) ?_
          · go_simp
          · first | (go_simp; done) | (go_simp; rfl)
          intro w4 hr hu
          obtain ⟨e0, e1, e2, e3, e4, e5⟩ := hr.h6s
          obtain ⟨c0, c1, c2, c3, c4, c5⟩ := (R63.out.upd hu (Nat.ne_of_lt SA.out)).h6s
          have BD := Lib.hid (BC.out.trans (hu.below BA.out.size))
          clear hr hu
          go_wp2_with fail
          refine hK _ _ BD.out ?_
          clear hK K
          refine h_done (by kernel_rfl) ?_
          go_wp2_with (first
            | (go_at_call 17; (with_reducible refine (HSP.out w4 (B.out.trans (BD.out.mono B.out.size))).mono ?_); rintro x w5 ⟨rfl, hb5⟩; have BE := Lib.hid ((B.out.trans (BD.out.mono B.out.size)).trans (hb5.mono (Nat.le_trans B.out.size BD.out.size))); clear hb5 c0 c1 c2 c3 c4 c5 e0 e1 e2 e3 e4 e5))
          go_ret
          exact ⟨one (vbool (by rw [HF.out])), BE.out⟩
        · intro K hK
          refine alloc_row rfl _ rfl _ MZ.out ?_
          intro w1 hr hb hz
          have RA := Lib.hid hr; have BA := Lib.hid (D0.out.trans (hb.mono D0.out.size)); have SA := Lib.hid (show wd.heap.size < w1.heap.size by omega)
          clear hr hb hz
          go_wp2_with fail
          refine hK _ _ BA.out ?_
          clear hK K
          (refine h_list 8 rfl (by kernel_rfl) ?_; intro K hK)
          refine alloc_row rfl _ rfl _ MZ.out ?_
          intro w2 hr hb hz
          have RB := Lib.hid hr; have RA2 := Lib.hid (RA.out.below hb RA.out.lt); have BB := Lib.hid (BA.out.trans (hb.mono BA.out.size))
          clear hr hb hz
          go_wp2_with fail
          refine hK _ _ BB.out ?_
          clear hK K
          (refine h_list 10 rfl (by kernel_rfl) ?_; intro K hK)
          refine store_row rfl _ (.tmp 6) _ rfl w1.heap.size (snC xs xn xb xt xk xa xm xc) ?_ ?_ 45 _ RB.out SZ.out rfl (sn_one _ _ _ _ _ _ _ _) ?_
          · go_simp
          · first | (go_simp; done) | (go_simp; rfl)
          intro w3 hr hu
          have R63 := Lib.hid hr; have R73 := Lib.hid (RA2.out.upd hu (Nat.ne_of_lt SA.out)); have BC := Lib.hid (BB.out.trans (hu.below BA.out.size))
          clear hr hu
          go_wp2_with fail
          refine hK _ _ BC.out ?_
          clear hK K
          (refine h_list 11 rfl (by kernel_rfl) ?_; intro K hK)
          refine store_row rfl _ (.tmp 7) _ rfl wd.heap.size (snC xs xn xb xt xk ya ym yc) ?_ ?_ 45 _ R73.out SZ.out rfl (sn_one _ _ _ _ _ _ _ _) ?_
          · go_simp
          · first | (go_simp; done) | (go_simp; rfl)
          intro w4 hr hu
          obtain ⟨e0, e1, e2, e3, e4, e5⟩ := hr.h6s
          obtain ⟨c0, c1, c2, c3, c4, c5⟩ := (R63.out.upd hu (Nat.ne_of_gt SA.out)).h6s
          have BD := Lib.hid (BC.out.trans (hu.below D0.out.size))
          clear hr hu
          go_wp2_with fail
          refine hK _ _ BD.out ?_
          clear hK K
          refine h_done (by kernel_rfl) ?_
          go_wp2_with (first
            | (go_at_call 17; (with_reducible refine (HSP.out w4 (B.out.trans (BD.out.mono B.out.size))).mono ?_); rintro x w5 ⟨rfl, hb5⟩; have BE := Lib.hid ((B.out.trans (BD.out.mono B.out.size)).trans (hb5.mono (Nat.le_trans B.out.size BD.out.size))); clear hb5 c0 c1 c2 c3 c4 c5 e0 e1 e2 e3 e4 e5))
          go_ret
          exact ⟨one (vbool (by rw [HF.out])), BE.out⟩
      subst h5
      have HN := Lib.hid (HNX.out (hd.2 rfl))
      clear hd HNX HBD
      have HSP := Lib.hid (fun w' (hb : Below w.heap.size w w') => usamepV xa ya xm xc ym yc P P true w' (hP.mono pcOk hb) (hQ.mono pcOk hb) (by simp))
      clear hP hQ
      go_wp2_with fail
      refine region_h (fun v => Below wr.heap.size wr v) (by kernel_rfl) (by kernel_rfl) (Below.refl _ _).drew ?_
      obtain ⟨wd, hwd⟩ : ∃ wd, wr.drew = wd := ⟨_, rfl⟩
      have D0 : Hid (Below wr.heap.size wr wd) := Lib.hid (by rw [← hwd]; exact (Below.refl _ _).drew)
      rw [hwd]
      clear hwd
      (refine h_read 0 rfl (by kernel_rfl) (by kernel_rfl) (h_free rfl) ?_ ?_ ?_; rotate_left; (focus (intro v hv; go_simp; rfl)); go_simp)
      (refine h_read 1 rfl (by kernel_rfl) (by kernel_rfl) (h_free rfl) ?_ ?_ ?_; rotate_left; (focus (intro v hv; go_simp; rfl)); go_simp)
      (refine h_read 2 rfl (by kernel_rfl) (by kernel_rfl) (h_free rfl) ?_ ?_ ?_; rotate_left; (focus (intro v hv; go_simp; rfl)); go_simp)
      (refine h_read 3 rfl (by kernel_rfl) (by kernel_rfl) (h_free rfl) ?_ ?_ ?_; rotate_left; (focus (intro v hv; refine run_cells 45 (.tmp 21) ?_ b (o + k * 6) ?_ (snC xs xn xb xt xk xa xm xc) _ (fun j' u hj => by rw [hv.cell (p := ⟨b, o + k * 6 + j', none⟩) (World.block_lt_of_cell? wr _ (X1.out j' u hj))]; exact X1.out j' u hj) Tryz.underlying45 rfl sn_size; (focus rfl); go_simp)); go_simp)
      (refine h_read 4 rfl (by kernel_rfl) (by kernel_rfl) (h_free rfl) ?_ ?_ ?_; rotate_left; (focus (intro v hv; go_simp; rfl)); go_simp)
      (refine h_read 5 rfl (by kernel_rfl) (by kernel_rfl) (h_free rfl) ?_ ?_ ?_; rotate_left; (focus (intro v hv; go_simp; rfl)); go_simp)
      (refine h_read 6 rfl (by kernel_rfl) (by kernel_rfl) (h_free rfl) ?_ ?_ ?_; rotate_left; (focus (intro v hv; go_simp; rfl)); go_simp)
      (refine h_read 7 rfl (by kernel_rfl) (by kernel_rfl) (h_free rfl) ?_ ?_ ?_; rotate_left; (focus (intro v hv; refine run_cells 45 (.tmp 25) ?_ b' (o' + k * 6) ?_ (snC xs xn xb xt xk ya ym yc) _ (fun j' u hj => by rw [hv.cell (p := ⟨b', o' + k * 6 + j', none⟩) (World.block_lt_of_cell? wr _ (X2.out j' u hj))]; exact X2.out j' u hj) Tryz.underlying45 rfl sn_size; (focus rfl); go_simp)); go_simp)
      refine h_two 8 9 rfl rfl (by kernel_rfl) ?_ ?_
      · intro K hK
        refine alloc_row rfl _ rfl _ MZ.out ?_
        intro w1 hr hb hz
        have RA := Lib.hid hr; have BA := Lib.hid (D0.out.trans (hb.mono D0.out.size)); have SA := Lib.hid (show wd.heap.size < w1.heap.size by omega)
        clear hr hb hz
        go_wp2_with fail
        refine hK _ _ BA.out ?_
        clear hK K
        (refine h_list 9 rfl (by kernel_rfl) ?_; intro K hK)
        refine alloc_row rfl _ rfl _ MZ.out ?_
        intro w2 hr hb hz
        have RB := Lib.hid hr; have RA2 := Lib.hid (RA.out.below hb RA.out.lt); have BB := Lib.hid (BA.out.trans (hb.mono BA.out.size))
        clear hr hb hz
        go_wp2_with fail
        refine hK _ _ BB.out ?_
        clear hK K
        (refine h_list 10 rfl (by kernel_rfl) ?_; intro K hK)
        refine store_row rfl _ (.tmp 6) _ rfl wd.heap.size (snC xs xn xb xt xk xa xm xc) ?_ ?_ 45 _ RA2.out SZ.out rfl (sn_one _ _ _ _ _ _ _ _) ?_
        · go_simp
        · first | (go_simp; done) | (go_simp; rfl)
        intro w3 hr hu
        have R63 := Lib.hid hr; have R73 := Lib.hid (RB.out.upd hu (Nat.ne_of_gt SA.out)); have BC := Lib.hid (BB.out.trans (hu.below D0.out.size))
        clear hr hu
        go_wp2_with fail
        refine hK _ _ BC.out ?_
        clear hK K
        (refine h_list 11 rfl (by kernel_rfl) ?_; intro K hK)
        refine store_row rfl _ (.tmp 7) _ rfl w1.heap.size (snC xs xn xb xt xk ya ym yc) ?_ ?_ 45 _ R73.out SZ.out rfl (sn_one _ _ _ _ _ _ _ _) ?_
        · go_simp
        · first | (go_simp; done) | (go_simp; rfl)
        intro w4 hr hu
        obtain ⟨e0, e1, e2, e3, e4, e5⟩ := hr.h6s
        obtain ⟨c0, c1, c2, c3, c4, c5⟩ := (R63.out.upd hu (Nat.ne_of_lt SA.out)).h6s
        have BD := Lib.hid (BC.out.trans (hu.below BA.out.size))
        clear hr hu
        go_wp2_with fail
        refine hK _ _ BD.out ?_
        clear hK K
        refine h_done (by kernel_rfl) ?_
        go_wp2_with (first
          | (go_at_call 17; (with_reducible refine (HSP.out w4 (B.out.trans (BD.out.mono B.out.size))).mono ?_); rintro x w5 ⟨rfl, hb5⟩; have BE := Lib.hid ((B.out.trans (BD.out.mono B.out.size)).trans (hb5.mono (Nat.le_trans B.out.size BD.out.size))); clear hb5 c0 c1 c2 c3 c4 c5 e0 e1 e2 e3 e4 e5))
        go_roundw
        case rel => exact ⟨k + 1, vint (by omega), by omega, HN, BE⟩
        case measure => simp [intOf]; omega
      · intro K hK
        refine alloc_row rfl _ rfl _ MZ.out ?_
        intro w1 hr hb hz
        have RA := Lib.hid hr; have BA := Lib.hid (D0.out.trans (hb.mono D0.out.size)); have SA := Lib.hid (show wd.heap.size < w1.heap.size by omega)
        clear hr hb hz
        go_wp2_with fail
        refine hK _ _ BA.out ?_
        clear hK K
        (refine h_list 8 rfl (by kernel_rfl) ?_; intro K hK)
        refine alloc_row rfl _ rfl _ MZ.out ?_
        intro w2 hr hb hz
        have RB := Lib.hid hr; have RA2 := Lib.hid (RA.out.below hb RA.out.lt); have BB := Lib.hid (BA.out.trans (hb.mono BA.out.size))
        clear hr hb hz
        go_wp2_with fail
        refine hK _ _ BB.out ?_
        clear hK K
        (refine h_list 10 rfl (by kernel_rfl) ?_; intro K hK)
        refine store_row rfl _ (.tmp 6) _ rfl w1.heap.size (snC xs xn xb xt xk xa xm xc) ?_ ?_ 45 _ RB.out SZ.out rfl (sn_one _ _ _ _ _ _ _ _) ?_
        · go_simp
        · first | (go_simp; done) | (go_simp; rfl)
        intro w3 hr hu
        have R63 := Lib.hid hr; have R73 := Lib.hid (RA2.out.upd hu (Nat.ne_of_lt SA.out)); have BC := Lib.hid (BB.out.trans (hu.below BA.out.size))
        clear hr hu
        go_wp2_with fail
        refine hK _ _ BC.out ?_
        clear hK K
        (refine h_list 11 rfl (by kernel_rfl) ?_; intro K hK)
        refine store_row rfl _ (.tmp 7) _ rfl wd.heap.size (snC xs xn xb xt xk ya ym yc) ?_ ?_ 45 _ R73.out SZ.out rfl (sn_one _ _ _ _ _ _ _ _) ?_
        · go_simp
        · first | (go_simp; done) | (go_simp; rfl)
        intro w4 hr hu
        obtain ⟨e0, e1, e2, e3, e4, e5⟩ := hr.h6s
        obtain ⟨c0, c1, c2, c3, c4, c5⟩ := (R63.out.upd hu (Nat.ne_of_gt SA.out)).h6s
        have BD := Lib.hid (BC.out.trans (hu.below D0.out.size))
        clear hr hu
        go_wp2_with fail
        refine hK _ _ BD.out ?_
        clear hK K
        refine h_done (by kernel_rfl) ?_
        go_wp2_with (first
          | (go_at_call 17; (with_reducible refine (HSP.out w4 (B.out.trans (BD.out.mono B.out.size))).mono ?_); rintro x w5 ⟨rfl, hb5⟩; have BE := Lib.hid ((B.out.trans (BD.out.mono B.out.size)).trans (hb5.mono (Nat.le_trans B.out.size BD.out.size))); clear hb5 c0 c1 c2 c3 c4 c5 e0 e1 e2 e3 e4 e5))
        go_roundw
        case rel => exact ⟨k + 1, vint (by omega), by omega, HN, BE⟩
        case measure => simp [intOf]; omega
    · obtain rfl : n = k := by omega
      have e1 : L.take n = L := List.take_of_length_le (by rw [L1.out]; exact Nat.le_refl _)
      have e2 : M.take n = M := List.take_of_length_le (by rw [L2.out]; exact Nat.le_refl _)
      have HT := Lib.hid (show V = true from HV.out.2 (by have := T.out; rw [e1, e2] at this; exact this))
      clear e1 e2
      go_wp2_with fail
      go_ret
      exact ⟨one (vbool (by rw [HT.out])), B.out⟩
end Go.Proofs.YtjolmjbhpokgmaaGreat.W

namespace Go.Proofs.YtjolmjbhpokgmaaGreat.W
open Go Go.ChangeShapes Go.WideShapes Go.ChangeAt Go.RowKit
open Go.Proofs.YtjolmjbhpokgmaaGreat.P (enc dec)
open Go.Proofs.YtjolmjbhpokgmaaGreat.S

theorem fewM_20 {L : List Sn} (h : fewM L = true) : ∀ s ∈ L, s.P.length ≤ 20 := by
  unfold fewM at h
  simp only [Bool.and_eq_true, decide_eq_true_eq, List.all_eq_true] at h
  exact h.2
set_option maxRecDepth 100000 in
set_option maxHeartbeats 32000000 in
theorem law_ManifestCodes (a : Option Addr) (n c : Nat) (X : List SnX) (a2 : Option Addr) (n2 c2 : Nat) (X2 : List SnX) (pa : Option Addr) (pn pc : Nat) (P : List Pc) (ba : Option Addr) (bm bc : Nat) (zb : List Int) (w : World) (h0 : Ls snE w a n c X ∧ ∀ x ∈ X, snSz x ≤ 2000000) (h2 : Ls snE w a2 n2 c2 X2) (hp0 : Ls pcE w pa pn pc P ∧ ∀ x ∈ P, x.sum.size ≤ 2000000) (hbz : IsRow .u8 w ba bm bc zb) :
    Calls Tryz.prog 3 #[.slice a n c, .slice a2 n2 c2, .slice pa pn pc, .slice ba bm bc] w fun x w' => x = .returned (.bool true) ∧ Below w.heap.size w w' := by
  have hb := Rd.of_row hbz
  obtain ⟨lb, hlb⟩ : ∃ l, ((zb.take bm).map fun n => UInt8.ofNat n.toNat) = l := ⟨_, rfl⟩
  rw [hlb] at hb
  clear hlb hbz
  obtain ⟨h, hs⟩ := h0
  obtain ⟨hp, hps⟩ := hp0
  have hsh0 : fewM (X.map (·.s)) = true → ∀ x ∈ X, x.short := fun hf x hx => by
    have h1 := hs x hx
    unfold snSz at h1
    have h20 := fewM_20 hf x.s (List.mem_map.2 ⟨x, hx, rfl⟩)
    exact ⟨by omega, by omega, by omega, fun p hp => by have := le_maxP hp; omega⟩
  have HA := Lib.hid (fun w => awake20 w)
  have HL := Lib.hid (show SnL w a n c (X.map (·.s)) from ⟨X, h, rfl⟩)
  have HM := Lib.hid (show SnL w a2 n2 c2 (X2.map (·.s)) from ⟨X2, h2, rfl⟩)
  have HB := Lib.hid hb
  have HP := Lib.hid hp
  have hmx := hb.hmax
  have hle := hb.hle
  have hmx2 := hp.hmax
  have hle2 := hp.hle
  have hln : (X.map (·.s)).length = n := by rw [List.length_map, h.hlen]
  have HF := Lib.hid (fun w' (hw : Below w.heap.size w w') => few20 a n c _ w' (HL.out.mono hw))
  have HG := Lib.hid (fun w' (hw : Below w.heap.size w w') => few20 a2 n2 c2 _ w' (HM.out.mono hw))
  obtain ⟨F, hF⟩ : ∃ F, fewM (X.map (·.s)) = F := ⟨_, rfl⟩
  obtain ⟨G, hG⟩ : ∃ G, fewM (X2.map (·.s)) = G := ⟨_, rfl⟩
  rw [hF] at HF
  rw [hG] at HG
  obtain ⟨VS, hVS⟩ : ∃ b : Bool, (b = true ↔ X.map (·.s) = X2.map (·.s)) := by
    by_cases hq : X.map (·.s) = X2.map (·.s)
    · exact ⟨true, by simp [hq]⟩
    · exact ⟨false, by simp [hq]⟩
  have HS1 := Lib.hid (fun w' (hw : Below w.heap.size w w') => psamesV a a2 n c n2 c2 _ _ VS w' (HL.out.mono hw) (HM.out.mono hw) hVS)
  have HS2 := Lib.hid (fun w' (hw : Below w.heap.size w w') => usamesV a a2 n c n2 c2 _ _ VS w' (HL.out.mono hw) (HM.out.mono hw) hVS)
  clear hVS
  cases F
  case false =>
    clear hF hsh0 hs hps
    go_enter Tryz.func3, Tryz.ntmps3
    go_wp2_with (first
      | (go_at_call 4; (with_reducible refine (HF.out w (Below.refl _ _)).mono ?_); rintro z w1 ⟨rfl, hb⟩; have B1 := Lib.hid hb; clear hb)
      | (go_at_call 5; (with_reducible refine (HA.out w1).mono ?_); rintro z w40 ⟨rfl, hb⟩; have B40 := Lib.hid (B1.out.trans (hb.mono B1.out.size)); clear hb))
    go_ret
    exact ⟨by first | rfl | exact one (vbool (by simp)), B40.out⟩
  cases G
  case false =>
    clear hF hsh0 hs hps
    go_enter Tryz.func3, Tryz.ntmps3
    go_wp2_with (first
      | (go_at_call 4; (with_reducible refine (HF.out w (Below.refl _ _)).mono ?_); rintro z w1 ⟨rfl, hb⟩; have B1 := Lib.hid hb; clear hb)
      | (go_at_call 4; (with_reducible refine (HG.out w1 B1.out).mono ?_); rintro z w2 ⟨rfl, hb⟩; have B2 := Lib.hid (B1.out.trans (hb.mono B1.out.size)); clear hb)
      | (go_at_call 5; (with_reducible refine (HA.out w2).mono ?_); rintro z w40 ⟨rfl, hb⟩; have B40 := Lib.hid (B2.out.trans (hb.mono B2.out.size)); clear hb))
    go_ret
    exact ⟨by first | rfl | exact one (vbool (by simp)), B40.out⟩
  by_cases hpn : pn ≤ 30
  rotate_left
  · have g1 : (30 : Int) < (pn : Int) := by omega
    clear hF hsh0 hs hps
    go_enter Tryz.func3, Tryz.ntmps3
    go_wp2_with (first
      | (go_at_call 4; (with_reducible refine (HF.out w (Below.refl _ _)).mono ?_); rintro z w1 ⟨rfl, hb⟩; have B1 := Lib.hid hb; clear hb)
      | (go_at_call 4; (with_reducible refine (HG.out w1 B1.out).mono ?_); rintro z w2 ⟨rfl, hb⟩; have B2 := Lib.hid (B1.out.trans (hb.mono B1.out.size)); clear hb)
      | (go_at_call 5; (with_reducible refine (HA.out w2).mono ?_); rintro z w40 ⟨rfl, hb⟩; have B40 := Lib.hid (B2.out.trans (hb.mono B2.out.size)); clear hb))
    go_ret
    exact ⟨by first | rfl | exact one (vbool (by simp)), B40.out⟩
  have g1 : ¬ (30 : Int) < (pn : Int) := by omega
  by_cases hbm : bm ≤ 4000
  rotate_left
  · have g2 : (4000 : Int) < (bm : Int) := by omega
    clear hF hsh0 hs hps
    go_enter Tryz.func3, Tryz.ntmps3
    go_wp2_with (first
      | (go_at_call 4; (with_reducible refine (HF.out w (Below.refl _ _)).mono ?_); rintro z w1 ⟨rfl, hb⟩; have B1 := Lib.hid hb; clear hb)
      | (go_at_call 4; (with_reducible refine (HG.out w1 B1.out).mono ?_); rintro z w2 ⟨rfl, hb⟩; have B2 := Lib.hid (B1.out.trans (hb.mono B1.out.size)); clear hb)
      | (go_at_call 5; (with_reducible refine (HA.out w2).mono ?_); rintro z w40 ⟨rfl, hb⟩; have B40 := Lib.hid (B2.out.trans (hb.mono B2.out.size)); clear hb))
    go_ret
    exact ⟨by first | rfl | exact one (vbool (by simp)), B40.out⟩
  have g2 : ¬ (4000 : Int) < (bm : Int) := by omega
  have hsh := hsh0 hF
  have hn30 : n ≤ 30 := by have := (fewM_few hF).1; rw [hln] at this; exact this
  have HR1 := Lib.hid (fun p w' (hq : RP w' p lb 0) => pmread p lb 0 w' hq)
  have HR2 := Lib.hid (fun p w' (hq : RR w' p lb 0) => zmread p lb 0 w' hq)
  obtain ⟨ZL, lz, ez, hz⟩ : ∃ x y z, readM lb 0 = (x, y, z) := ⟨_, _, _, rfl⟩
  simp only [hz] at HR1 HR2
  have HU1 := Lib.hid (fun p w' (hq : RP w' p lb 0) => preadps p lb 0 w' hq)
  have HU2 := Lib.hid (fun p w' (hq : RR w' p lb 0) => zreadps p lb 0 w' hq)
  obtain ⟨UL, lu, eu, hu0⟩ : ∃ x y z, rdPL lb 0 = (x, y, z) := ⟨_, _, _, rfl⟩
  have huf := rdPL_mem Pc.fit rdPc_fit lb 0
  simp only [hu0] at HU1 HU2 huf
  have UF := Lib.hid huf
  obtain ⟨VP, hVP⟩ : ∃ b : Bool, (b = true ↔ P = UL) := by
    by_cases hq : P = UL
    · exact ⟨true, by simp [hq]⟩
    · exact ⟨false, by simp [hq]⟩
  have HVP := Lib.hid hVP
  have HW1 := Lib.hid (fun w' (hw : Below w.heap.size w w') => pputsn ba bm bc lb a n c X w' (hb.mono hw) (by omega) (h.mono snOk hw) hn30 hsh)
  have HW2 := Lib.hid (fun w' (hw : Below w.heap.size w w') => uputsn ba bm bc lb a n c X w' (hb.mono hw) (by omega) (h.mono snOk hw) hn30 hsh)
  obtain ⟨T1, hT1⟩ : ∃ T, lb ++ (enc n ++ X.flatMap codeX) = T := ⟨_, rfl⟩
  rw [hT1] at HW1 HW2
  have HY1 := Lib.hid (fun w' (hw : Below w.heap.size w w') => pputpieces ba bm bc lb pa pn pc P w' (hb.mono hw) (by omega) (hp.mono pcOk hw) (by omega) hps)
  have HY2 := Lib.hid (fun w' (hw : Below w.heap.size w w') => uputps ba bm bc lb pa pn pc P w' (hb.mono hw) (by omega) (hp.mono pcOk hw) (by omega) hps)
  obtain ⟨T2, hT2⟩ : ∃ T, lb ++ (enc pn ++ P.flatMap codeP) = T := ⟨_, rfl⟩
  rw [hT2] at HY1 HY2
  clear h hs hsh hsh0 hp hps hb h2 hF hG hz hu0 huf hVP hT1 hT2 hln
  go_enter Tryz.func3, Tryz.ntmps3
  go_wp2_with (first
    | (go_at_call 4; (with_reducible refine (HF.out w (Below.refl _ _)).mono ?_); rintro z w1 ⟨rfl, hb⟩; have B1 := Lib.hid hb; clear hb)
    | (go_at_call 4; (with_reducible refine (HG.out w1 B1.out).mono ?_); rintro z w2 ⟨rfl, hb⟩; have B2 := Lib.hid (B1.out.trans (hb.mono B1.out.size)); clear hb)
    | (go_at_call 6; (with_reducible refine (popen ba bm bc lb w2 (HB.out.mono B2.out) (by omega)).mono ?_); rintro z w3 ⟨p, rfl, hp1, hp2, hb⟩; have P3 := Lib.hid hp2; have PW := Lib.hid (Nat.le_trans B2.out.size hp1); have B3 := Lib.hid (B2.out.trans (hb.mono B2.out.size)); clear hp1 hp2 hb)
    | (go_at_call 7; (with_reducible refine (ropen ba bm bc lb w3 (HB.out.mono B3.out) (by omega)).mono ?_); rintro z w4 ⟨q, rfl, hq1, hq2, hb⟩; have Q4 := Lib.hid hq2; have P4 := Lib.hid (P3.out.mono hb); have QW := Lib.hid (Nat.le_trans B3.out.size hq1); have B4 := Lib.hid (B3.out.trans (hb.mono B3.out.size)); clear hq1 hq2 hb)
    | (go_at_call 8; (with_reducible refine (HR1.out p w4 P4.out).mono ?_); rintro z w5 ⟨xa, xm, xc, rfl, hl, hN, hP, hg⟩; have XL := Lib.hid hl; have X5 := Lib.hid hN; have P5 := Lib.hid hP; have Q5 := Lib.hid (Q4.out.gw P4.out hg); have B5 := Lib.hid (B4.out.trans (hg.below PW.out B4.out.size)); clear hl hN hP hg)
    | (go_at_call 9; (with_reducible refine (HR2.out q w5 Q5.out).mono ?_); rintro z w6 ⟨ya, ym, yc, rfl, hl, hN, hQ, hg⟩; have YL := Lib.hid hl; have Y6 := Lib.hid hN; have X6 := Lib.hid (X5.out.rr Q5.out hg); have Q6 := Lib.hid hQ; have P6 := Lib.hid (P5.out.gw Q5.out hg); have B6 := Lib.hid (B5.out.trans (hg.below QW.out B5.out.size)); clear hl hN hQ hg)
    | (go_at_call 6; (with_reducible refine (popen ba bm bc lb w6 (HB.out.mono B6.out) (by omega)).mono ?_); rintro z w7 ⟨p2, rfl, hp1, hp2, hb⟩; have S7 := Lib.hid hp2; have SW := Lib.hid hp1; have D7 := Lib.hid hb; have B7 := Lib.hid (B6.out.trans (hb.mono B6.out.size)); clear hp1 hp2 hb)
    | (go_at_call 7; (with_reducible refine (ropen ba bm bc lb w7 (HB.out.mono B7.out) (by omega)).mono ?_); rintro z w8 ⟨q2, rfl, hq1, hq2, hb⟩; have T8 := Lib.hid hq2; have S8 := Lib.hid (S7.out.mono hb); have TW := Lib.hid (Nat.le_trans D7.out.size hq1); have D8 := Lib.hid (D7.out.trans (hb.mono D7.out.size)); clear hq1 hq2 hb)
    | (go_at_call 10; (with_reducible refine (HU1.out p2 w8 S8.out).mono ?_); rintro z w9 ⟨ua, um, uc, rfl, hl, hN, hP, hg⟩; have UL1 := Lib.hid hl; have U9 := Lib.hid hN; have S9 := Lib.hid hP; have T9 := Lib.hid (T8.out.gw S8.out hg); have D9 := Lib.hid (D8.out.trans (hg.below SW.out D8.out.size)); clear hl hN hP hg)
    | (go_at_call 11; (with_reducible refine (HU2.out q2 w9 T9.out).mono ?_); rintro z w10 ⟨va, vm, vc, rfl, hl, hN, hQ, hg⟩; have VL1 := Lib.hid hl; have V10 := Lib.hid hN; have U10 := Lib.hid (LsN.rr (by decide) pcNb U9.out T9.out hg); have T10 := Lib.hid hQ; have S10 := Lib.hid (S9.out.gw T9.out hg); have D10 := Lib.hid (D9.out.trans (hg.below TW.out D9.out.size)); have B10 := Lib.hid (B6.out.trans (D10.out.mono B6.out.size)); have P10 := Lib.hid (P6.out.mono D10.out); have Q10 := Lib.hid (Q6.out.mono D10.out); have XS := Lib.hid ((X6.out.kept D10.out).snl' XL.out); have YS := Lib.hid ((Y6.out.kept D10.out).snl' YL.out); have US := Lib.hid (lso_out pcOk (U10.out.lso pcOk) UL1.out UF.out); have VS1 := Lib.hid (lso_out pcOk (V10.out.lso pcOk) VL1.out UF.out); clear hl hN hQ hg)
    | (go_at_call 12; (with_reducible refine (usamesV xa ya xm xc ym yc ZL ZL true w10 XS.out YS.out (by simp)).mono ?_); rintro z w11 ⟨rfl, hb⟩; have P11 := Lib.hid (P10.out.mono hb); have Q11 := Lib.hid (Q10.out.mono hb); have S11 := Lib.hid (S10.out.mono hb); have T11 := Lib.hid (T10.out.mono hb); have US11 := Lib.hid (US.out.mono pcOk hb); have VS11 := Lib.hid (VS1.out.mono pcOk hb); have B11 := Lib.hid (B10.out.trans (hb.mono B10.out.size)); clear hb)
    | (go_at_call 13; (with_reducible refine (perr p lz ez w11 P11.out).mono ?_); rintro z w' ⟨rfl, rfl⟩)
    | (go_at_call 14; (with_reducible refine (rerr q lz ez w11 Q11.out).mono ?_); rintro z w' ⟨rfl, rfl⟩)
    | (go_at_call 15; (with_reducible refine (pleft p lz ez w11 P11.out).mono ?_); rintro z w' ⟨rfl, rfl⟩)
    | (go_at_call 16; (with_reducible refine (rleft q lz ez w11 Q11.out).mono ?_); rintro z w' ⟨rfl, rfl⟩)
    | (go_at_call 17; (with_reducible refine (usamepV ua va um uc vm vc UL UL true w11 US11.out VS11.out (by simp)).mono ?_); rintro z w12 ⟨rfl, hb⟩; have S12 := Lib.hid (S11.out.mono hb); have T12 := Lib.hid (T11.out.mono hb); have US12 := Lib.hid (US11.out.mono pcOk hb); have B12 := Lib.hid (B11.out.trans (hb.mono B11.out.size)); clear hb)
    | (go_at_call 13; (with_reducible refine (perr p2 lu eu w12 S12.out).mono ?_); rintro z w' ⟨rfl, rfl⟩)
    | (go_at_call 14; (with_reducible refine (rerr q2 lu eu w12 T12.out).mono ?_); rintro z w' ⟨rfl, rfl⟩)
    | (go_at_call 15; (with_reducible refine (pleft p2 lu eu w12 S12.out).mono ?_); rintro z w' ⟨rfl, rfl⟩)
    | (go_at_call 16; (with_reducible refine (rleft q2 lu eu w12 T12.out).mono ?_); rintro z w' ⟨rfl, rfl⟩)
    | (go_at_call 19; (with_reducible refine (HW1.out w12 B12.out).mono ?_); rintro z w13 ⟨y13, m13, d13, rfl, hr, -, hb⟩; have R13 := Lib.hid hr; have US13 := Lib.hid (US12.out.mono pcOk hb); clear hr; have B13 := Lib.hid (B12.out.trans (hb.mono B12.out.size)); clear hb)
    | (go_at_call 20; (with_reducible refine (HW2.out w13 B13.out).mono ?_); rintro z w14 ⟨y14, m14, d14, rfl, hr, -, hb⟩; have R14 := Lib.hid hr; have K14 := Lib.hid (R13.out.mono hb); have US14 := Lib.hid (US13.out.mono pcOk hb); clear hr; have B14 := Lib.hid (B13.out.trans (hb.mono B13.out.size)); clear hb)
    | (go_at_call 18; (with_reducible refine (sequal y13 y14 m13 m14 d13 d14 T1 T1 w14 K14.out R14.out).mono ?_); rw [decide_eq_true rfl]; rintro z w15 ⟨rfl, hq⟩; have hb := hq.below w14.heap.size; have US15 := Lib.hid (US14.out.mono pcOk hb); have B15 := Lib.hid (B14.out.trans (hb.mono B14.out.size)); clear hq hb)
    | (go_at_call 21; (with_reducible refine (HY1.out w15 B15.out).mono ?_); rintro z w16 ⟨y16, m16, d16, rfl, hr, -, hb⟩; have R16 := Lib.hid hr; have US16 := Lib.hid (US15.out.mono pcOk hb); clear hr; have B16 := Lib.hid (B15.out.trans (hb.mono B15.out.size)); clear hb)
    | (go_at_call 22; (with_reducible refine (HY2.out w16 B16.out).mono ?_); rintro z w17 ⟨y17, m17, d17, rfl, hr, -, hb⟩; have R17 := Lib.hid hr; have K17 := Lib.hid (R16.out.mono hb); have US17 := Lib.hid (US16.out.mono pcOk hb); clear hr; have B17 := Lib.hid (B16.out.trans (hb.mono B16.out.size)); clear hb)
    | (go_at_call 18; (with_reducible refine (sequal y16 y17 m16 m17 d16 d17 T2 T2 w17 K17.out R17.out).mono ?_); rw [decide_eq_true rfl]; rintro z w18 ⟨rfl, hq⟩; have hb := hq.below w17.heap.size; have US18 := Lib.hid (US17.out.mono pcOk hb); have B18 := Lib.hid (B17.out.trans (hb.mono B17.out.size)); clear hq hb)
    | (go_at_call 23; (with_reducible refine (HS1.out w18 B18.out).mono ?_); rintro z w19 ⟨rfl, hb⟩; have US19 := Lib.hid (US18.out.mono pcOk hb); have B19 := Lib.hid (B18.out.trans (hb.mono B18.out.size)); clear hb)
    | (go_at_call 12; (with_reducible refine (HS2.out w19 B19.out).mono ?_); rintro z w20 ⟨rfl, hb⟩; have US20 := Lib.hid (US19.out.mono pcOk hb); have B20 := Lib.hid (B19.out.trans (hb.mono B19.out.size)); clear hb)
    | (go_at_call 24; (with_reducible refine (psamepV pa ua pn pc um uc P UL VP w20 (HP.out.mono pcOk B20.out) US20.out HVP.out).mono ?_); rintro z w21 ⟨rfl, hb⟩; have US21 := Lib.hid (US20.out.mono pcOk hb); have B21 := Lib.hid (B20.out.trans (hb.mono B20.out.size)); clear hb)
    | (go_at_call 17; (with_reducible refine (usamepV pa ua pn pc um uc P UL VP w21 (HP.out.mono pcOk B21.out) US21.out HVP.out).mono ?_); rintro z w22 ⟨rfl, hb⟩; have B22 := Lib.hid (B21.out.trans (hb.mono B21.out.size)); clear hb)
    | (go_at_call 5; (with_reducible refine (HA.out w22).mono ?_); rintro z w40 ⟨rfl, hb⟩; have B40 := Lib.hid (B22.out.trans (hb.mono B22.out.size)); clear hb))
  go_ret
  exact ⟨by first | rfl | exact one (vbool (by simp)), B40.out⟩
end Go.Proofs.YtjolmjbhpokgmaaGreat.W
