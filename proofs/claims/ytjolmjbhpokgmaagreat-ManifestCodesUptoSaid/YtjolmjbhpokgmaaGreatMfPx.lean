/- LAYER 20 (manifest): pieces: ReadPieces of the reference. -/
import Derived.Test.YtjolmjbhpokgmaaGreatMfPr
import Derived.Test.YtjolmjbhpokgmaaGreatMfUb
import Derived.Test.YtjolmjbhpokgmaaGreatLg
set_option linter.unusedSimpArgs false
set_option linter.unusedVariables false
namespace Go.Proofs.YtjolmjbhpokgmaaGreat.W
open Go Go.ChangeShapes Go.WideShapes Go.ChangeAt Go.RowKit
open Go.Proofs.YtjolmjbhpokgmaaGreat.P (enc dec)
open Go.Proofs.YtjolmjbhpokgmaaGreat.S

theorem RR.putM' {w w' : World} {p g : Nat} {t : TypeId} {l : List UInt8} {e : Int} {L : List Value} (h : RR w p l e) (hpg : p ≠ g) (hq : Row w g t L) (hnb : NoB L) (hu : Upd w w' g) : RR w' p l e := by
  obtain ⟨a, cap, hh, hr⟩ := h.ex
  exact ⟨⟨a, cap, by rw [hu.block p hpg]; exact hh, hr.upd' hu (hr.apart hq (fun x hx => hnb x (by simpa using hx)))⟩, h.small, h.hnone⟩
theorem rdPc_err {l : List UInt8} {e : Int} (h : e ≠ 0) : (rdPc l e).2 = (l, e) := by
  have ht : textR 32 l e = ([], l, e) := by unfold textR; rw [numR_err h]; dsimp only; rw [if_pos h]
  unfold rdPc failL failE
  simp only [ht, numR_err h]
  split
  · rfl
  · simp [h]
theorem rdPcs_stuck (l : List UInt8) (e : Int) (m : Nat) (h : (rdPcs m l e).2.2 ≠ 0) : ∀ k, (rdPcs (m + k) l e).2 = (rdPcs m l e).2
  | 0 => rfl
  | k + 1 => by
    have ih := rdPcs_stuck l e m h k
    rw [show m + (k + 1) = (m + k) + 1 by omega]
    simp only [rdPcs]
    rw [ih, rdPc_err h]
theorem zbuiltPc (s : ByteArray) : Tryz.prog.built 47 [(0, .string s)] = some (Pc.cells ⟨s, 0⟩).toArray := by kernel_rfl
/-- while pieces are read: the reader, the list so far, a piece's row -/
structure PS (w0 w : World) (p : Nat) (l : List UInt8) (e : Int) (g : Nat) (C : List Value) (v : Value) (L : List Pc) : Prop where
  rr : RR w p l e
  r : Row w g 47 C
  ln : LsN pcE w w0.heap.size v L
  gw : Gw p w0 w
  n : p ≠ g
  b : w0.heap.size ≤ g
section
variable {w0 w w' : World} {p g : Nat} {l : List UInt8} {e : Int} {C : List Value} {v : Value} {L : List Pc}
theorem PS.rd (h : PS w0 w p l e g C v L) {l' : List UInt8} {e' : Int} (hP : RR w' p l' e') (hu : Upd w w' p) : PS w0 w' p l' e' g C v L :=
  ⟨hP, h.r.upd hu h.n.symm, LsN.rr (by decide) pcNb h.ln h.rr (Gw.upd hu), h.gw.trans (Gw.upd hu), h.n, h.b⟩
theorem PS.grow (h : PS w0 w p l e g C v L) (hb : Below w.heap.size w w') : PS w0 w' p l e g C v L :=
  ⟨h.rr.mono hb, h.r.below hb h.r.lt, h.ln.kept hb, h.gw.trans (Gw.of_below hb), h.n, h.b⟩
theorem PS.setT (h : PS w0 w p l e g C v L) (hN : NoB C) (hv : v.ownBlock ≠ some g) {C' : List Value} (hr : Row w' g 47 C') (hu : Upd w w' g) : PS w0 w' p l e g C' v L :=
  ⟨h.rr.putM' h.n h.r hN hu, hr, h.ln.upd hu hv, h.gw.tail h.b hu, h.n, h.b⟩
end
set_option maxRecDepth 100000 in
set_option maxHeartbeats 16000000 in
theorem zreadps (p : Nat) (l : List UInt8) (e : Int) (w : World) (h : RR w p l e) :
    Calls Tryz.prog 11 #[.pointer (some ⟨p, 0, none⟩)] w fun x w' => ∃ a m c, x = .returned (.slice a m c) ∧ (rdPL l e).1.length = m ∧ LsN pcE w' w.heap.size (.slice a m c) (rdPL l e).1 ∧ RR w' p (rdPL l e).2.1 (rdPL l e).2.2 ∧ Gw p w w' := by
  have H := Lib.hid h
  have HSZ := Lib.hid pc_size
  have MZ := Lib.hid pc_zero
  have hn := numR_leM 8 (by decide) l e
  obtain ⟨n, l1, e1, hq⟩ : ∃ x y z, numR 8 l e = (x, y, z) := ⟨_, _, _, rfl⟩
  have hpl : rdPL l e = (lsLm (rdPcs n l1 e1), (rdPcs n l1 e1).2) := by unfold rdPL; simp only [hq]
  rw [hq] at hn
  dsimp only at hn
  rw [hpl]
  have HQ := Lib.hid hq
  have STK := Lib.hid (rdPcs_stuck l1 e1)
  obtain ⟨Z, hZ⟩ : ∃ Z, rdPcs n l1 e1 = Z := ⟨_, rfl⟩
  rw [hZ]
  have HZ := Lib.hid hZ
  clear h hq hZ hpl
  go_enter Tryz.func11, Tryz.ntmps11
  go_wp2_with (first
    | (go_at_call 35; (with_reducible refine (rnumR p 8 l e w H.out).mono ?_); rw [HQ.out]; rintro x w1 ⟨rfl, hP, hu⟩; have P1 := Lib.hid hP; have G1 := Lib.hid (Gw.upd hu); clear hP hu))
  go_loopw [3, 5] (fun v i wr => ∃ (k : Nat) (Lk : List Pc) (lk : List UInt8) (ek : Int) (ad : Option Addr) (m cc : Nat), v = .slice ad m cc ∧ i = .int .i64 (k : Int) ∧ k ≤ n ∧ Lk.length = m ∧ Hid (rdPcs k l1 e1 = (Lk, lk, ek)) ∧ Hid (LsN pcE wr w.heap.size (.slice ad m cc) Lk) ∧ Hid (RR wr p lk ek) ∧ Hid (Gw p w wr)) (fun _ i _ => n - (intOf i).toNat)
  case atStart => exact ⟨0, [], l1, e1, none, 0, 0, rfl, rfl, Nat.zero_le _, rfl, Lib.hid rfl, Lib.hid (LsN.nil _ _), P1, G1⟩
  case round =>
    obtain ⟨k, Lk, lk, ek, ad, m, cc, rfl, rfl, hk, hlm, HK, N, P, G⟩ := hrel
    have HLM := Lib.hid hlm
    have hmk : m ≤ 8 := by have := rdPcs_len l1 e1 k; rw [HK.out] at this; dsimp only at this; omega
    clear hlm
    by_cases hek : ek = 0
    · subst hek
      by_cases hlt : k < n
      · obtain ⟨tx, l2, e2, hh1⟩ : ∃ x y z, textR 32 lk 0 = (x, y, z) := ⟨_, _, _, rfl⟩
        obtain ⟨sz, l3, e3, hh2⟩ : ∃ x y z, numR 256 l2 e2 = (x, y, z) := ⟨_, _, _, rfl⟩
        have hft := rdPc_fit lk 0
        have hrd : rdPc lk 0 = if pokM ⟨str tx, (sz : Int)⟩ = true then (⟨str tx, (sz : Int)⟩, l3, e3) else (⟨str tx, (sz : Int)⟩, failL l3 e3 3, failE e3 3) := by unfold rdPc; simp only [hh1, hh2]
        have hf1 : (rdPc lk 0).1 = ⟨str tx, (sz : Int)⟩ := by rw [rdPc_fst]; simp only [hh1, hh2]
        rw [hf1] at hft
        have FT := Lib.hid hft
        have HPK := Lib.hid (fun w => upiece ⟨str tx, (sz : Int)⟩ w hft)
        obtain ⟨ok, hok⟩ : ∃ b, pokM ⟨str tx, (sz : Int)⟩ = b := ⟨_, rfl⟩
        rw [hok] at hrd HPK
        obtain ⟨lx, ex, hx⟩ : ∃ y z, (rdPc lk 0).2 = (y, z) := ⟨_, _, rfl⟩
        have HK2 := Lib.hid (show rdPcs (k + 1) l1 e1 = (Lk ++ [⟨str tx, (sz : Int)⟩], lx, ex) by simp only [rdPcs]; rw [HK.out]; dsimp only; rw [hf1, hx])
        rw [hrd] at hx
        have K1 := Lib.hid hh1
        have K2 := Lib.hid hh2
        have g2 : (k : Int) < (n : Int) := by omega
        clear hh1 hh2 hrd hft hf1 hok
        by_cases he3 : e3 = 0
        · subst he3
          cases ok
          · rw [if_neg (by decide)] at hx
            have HX := Lib.hid (show (failL l3 0 3, failE 0 3) = (lx, ex) from hx)
            obtain ⟨r1, r2⟩ := Prod.mk.inj HX.out
            have R1 := Lib.hid r1
            have R2 := Lib.hid r2
            clear hx r1 r2
            go_wp2_with (first
              | (go_at_call 14; (with_reducible refine (rerr p lk 0 wr P.out).mono ?_); rintro x w' ⟨rfl, rfl⟩)
              | (go_at_call 36; (with_reducible refine (rtextR p 32 lk 0 wr P.out).mono ?_); rw [K1.out]; rintro x w20 ⟨rfl, hP, hu⟩; have P20 := Lib.hid hP; have N20 := Lib.hid (LsN.rr (by decide) pcNb N.out P.out (Gw.upd hu)); have G20 := Lib.hid (G.out.trans (Gw.upd hu)); clear hP hu)
              | ((with_reducible refine build_row (o := ⟨some 21, _, _, _, _, _⟩) rfl _ _ rfl (Pc.cells ⟨str tx, 0⟩) ?_ ?_); (focus (go_simp; exact zbuiltPc _)))
              | ((with_reducible refine alloc_row (o := ⟨some 6, _, _, _, _, _⟩) rfl _ rfl _ MZ.out ?_); intro w21 hr hb hz; have Y21 := Lib.hid (show PS w w21 p l2 e2 w20.heap.size (Pc.cells pcZ) (.slice ad m cc) Lk from ⟨P20.out.mono hb, hr, N20.out.kept hb, G20.out.trans (Gw.of_below hb), Nat.ne_of_lt P20.out.lt, G20.out.size⟩); have NV := Lib.hid (show (Value.slice ad m cc).ownBlock ≠ some w20.heap.size from fun h => Nat.lt_irrefl _ (N20.out.lt _ h).2); clear hr hb hz)
              | ((with_reducible refine store_row (o := ⟨none, _, _, _, _, _⟩) rfl _ (.tmp 6) _ rfl w20.heap.size (Pc.cells ⟨str tx, 0⟩) ?_ ?_ 47 _ Y21.out.r ?_ ?_ ?_ ?_); (focus go_simp); (focus (first | (go_simp; done) | (go_simp; rfl))); (focus (exact HSZ.out)); (focus rfl); (focus (exact pc_one _)); intro w22 hr hu; have Y22 := Lib.hid (Y21.out.setT (nob_pc pcZ) NV.out hr hu); clear hr hu)
              | (go_at_call 35; (with_reducible refine (rnumR p 256 l2 e2 w22 Y22.out.rr).mono ?_); rw [K2.out]; rintro x w23 ⟨rfl, hP, hu⟩; have Y23 := Lib.hid (Y22.out.rd hP hu); clear hP hu)
              | ((with_reducible refine store_cell (o := ⟨none, _, _, _, _, _⟩) rfl _ (.tmp 24) _ rfl w20.heap.size 1 (.int .i64 (sz : Int)) ?_ ?_ rfl rfl 47 _ Y23.out.r ?_ ?_ ?_); (focus go_simp); (focus (go_simp; first | done | rfl)); (focus (kernel_rfl)); (focus (show 1 < 2; decide)); intro w24 hr hu; have Y24 := Lib.hid (Y23.out.setT (nob_pc ⟨str tx, 0⟩) NV.out (show Row w24 w20.heap.size 47 (Pc.cells ⟨str tx, (sz : Int)⟩) from hr) hu); clear hr hu)
              | (go_at_call 14; (with_reducible refine (rerr p l3 0 w24 Y24.out.rr).mono ?_); rintro x w' ⟨rfl, rfl⟩)
              | ((with_reducible refine load_rowg (o := ⟨some 29, _, _, _, _, _⟩) 3 true 28 rfl _ _ rfl w20.heap.size _ (Pc.cells ⟨str tx, (sz : Int)⟩) _ Y24.out.r Tryz.underlying47 rfl ?_ ?_ ?_ ?_ ?_); (focus rfl); (focus (first | (go_simp; done) | (go_simp; rfl))); (focus (first | (go_simp; done) | (go_simp; rfl))); (focus (exact HSZ.out)))
              | (go_at_call 41; (with_reducible refine (HPK.out w24).mono ?_); rintro x w25 ⟨rfl, hb⟩; have Y25 := Lib.hid (Y24.out.grow hb); clear hb)
              | (go_at_call 38; (with_reducible refine (rfail p l3 0 3 w25 Y25.out.rr).mono ?_); rw [R1.out, R2.out]; rintro x w26 ⟨rfl, hP, hu⟩; have Y26 := Lib.hid (Y25.out.rd hP hu); clear hP hu)
              | ((with_reducible refine load_row (o := ⟨some 36, _, _, _, _, _⟩) rfl _ _ rfl w20.heap.size ?_ _ (Pc.cells ⟨str tx, (sz : Int)⟩) _ Y26.out.r Tryz.underlying47 rfl ?_ ?_); (focus go_simp); (focus (exact HSZ.out)))
              | ((with_reducible refine build_ls pcOk pc_fill (o := ⟨some 37, _, _, _, _, _⟩) rfl _ rfl ⟨str tx, (sz : Int)⟩ ?_ ?_ (by decide) ?_); (focus (first | (go_simp; done) | (go_simp; rfl))); (focus (exact FT.out)); intro w33 hl hb hz; have Q33 := Lib.hid hl; have Y33 := Lib.hid (Y26.out.grow hb); clear hl hb hz)
              | (at_builtin; (with_reducible refine append_lsn pcOk pcNb rfl _ _ rfl w.heap.size (.slice ad m cc) Lk ?_ Y33.out.ln _ 0 1 1 [⟨str tx, (sz : Int)⟩] ?_ Q33.out (by decide) ?_ Y33.out.gw.size ?_); (focus (first | (go_simp; done) | (go_simp; rfl))); (focus (first | (go_simp; done) | (go_simp; rfl))); (focus (rw [HLM.out]; omega)); intro v34 w34 hN hb hg; have P34 := Lib.hid (RR.ownL (by decide) pcNb Y33.out.rr Y33.out.ln hg); have G34 := Lib.hid (gw_belowM Y33.out.gw hb); obtain ⟨m5, hm5⟩ : ∃ q, (Lk ++ [⟨str tx, (sz : Int)⟩] : List Pc).length = q := ⟨_, rfl⟩; obtain ⟨a34, c34, hv34, -, -⟩ := (hN.lso pcOk).ls pcOk (fun x hx => by (have := rdPcs_fit l1 e1 (k + 1)); rw [HK2.out] at this; exact this x hx); rw [hm5] at hv34; subst hv34; have N34 := Lib.hid hN; have M34 := Lib.hid hm5; clear hN hb hg hm5))
            go_roundw
            case rel => exact ⟨k + 1, _, lx, ex, a34, m5, c34, rfl, vint (by omega), by omega, M34.out, HK2, N34, P34, G34⟩
            case measure => simp [intOf]; omega
          · rw [if_pos rfl] at hx
            obtain ⟨r1, r2⟩ := Prod.mk.inj hx
            subst r1 r2
            clear hx
            go_wp2_with (first
              | (go_at_call 14; (with_reducible refine (rerr p lk 0 wr P.out).mono ?_); rintro x w' ⟨rfl, rfl⟩)
              | (go_at_call 36; (with_reducible refine (rtextR p 32 lk 0 wr P.out).mono ?_); rw [K1.out]; rintro x w20 ⟨rfl, hP, hu⟩; have P20 := Lib.hid hP; have N20 := Lib.hid (LsN.rr (by decide) pcNb N.out P.out (Gw.upd hu)); have G20 := Lib.hid (G.out.trans (Gw.upd hu)); clear hP hu)
              | ((with_reducible refine build_row (o := ⟨some 21, _, _, _, _, _⟩) rfl _ _ rfl (Pc.cells ⟨str tx, 0⟩) ?_ ?_); (focus (go_simp; exact zbuiltPc _)))
              | ((with_reducible refine alloc_row (o := ⟨some 6, _, _, _, _, _⟩) rfl _ rfl _ MZ.out ?_); intro w21 hr hb hz; have Y21 := Lib.hid (show PS w w21 p l2 e2 w20.heap.size (Pc.cells pcZ) (.slice ad m cc) Lk from ⟨P20.out.mono hb, hr, N20.out.kept hb, G20.out.trans (Gw.of_below hb), Nat.ne_of_lt P20.out.lt, G20.out.size⟩); have NV := Lib.hid (show (Value.slice ad m cc).ownBlock ≠ some w20.heap.size from fun h => Nat.lt_irrefl _ (N20.out.lt _ h).2); clear hr hb hz)
              | ((with_reducible refine store_row (o := ⟨none, _, _, _, _, _⟩) rfl _ (.tmp 6) _ rfl w20.heap.size (Pc.cells ⟨str tx, 0⟩) ?_ ?_ 47 _ Y21.out.r ?_ ?_ ?_ ?_); (focus go_simp); (focus (first | (go_simp; done) | (go_simp; rfl))); (focus (exact HSZ.out)); (focus rfl); (focus (exact pc_one _)); intro w22 hr hu; have Y22 := Lib.hid (Y21.out.setT (nob_pc pcZ) NV.out hr hu); clear hr hu)
              | (go_at_call 35; (with_reducible refine (rnumR p 256 l2 e2 w22 Y22.out.rr).mono ?_); rw [K2.out]; rintro x w23 ⟨rfl, hP, hu⟩; have Y23 := Lib.hid (Y22.out.rd hP hu); clear hP hu)
              | ((with_reducible refine store_cell (o := ⟨none, _, _, _, _, _⟩) rfl _ (.tmp 24) _ rfl w20.heap.size 1 (.int .i64 (sz : Int)) ?_ ?_ rfl rfl 47 _ Y23.out.r ?_ ?_ ?_); (focus go_simp); (focus (go_simp; first | done | rfl)); (focus (kernel_rfl)); (focus (show 1 < 2; decide)); intro w24 hr hu; have Y24 := Lib.hid (Y23.out.setT (nob_pc ⟨str tx, 0⟩) NV.out (show Row w24 w20.heap.size 47 (Pc.cells ⟨str tx, (sz : Int)⟩) from hr) hu); clear hr hu)
              | (go_at_call 14; (with_reducible refine (rerr p l3 0 w24 Y24.out.rr).mono ?_); rintro x w' ⟨rfl, rfl⟩)
              | ((with_reducible refine load_rowg (o := ⟨some 29, _, _, _, _, _⟩) 3 true 28 rfl _ _ rfl w20.heap.size _ (Pc.cells ⟨str tx, (sz : Int)⟩) _ Y24.out.r Tryz.underlying47 rfl ?_ ?_ ?_ ?_ ?_); (focus rfl); (focus (first | (go_simp; done) | (go_simp; rfl))); (focus (first | (go_simp; done) | (go_simp; rfl))); (focus (exact HSZ.out)))
              | (go_at_call 41; (with_reducible refine (HPK.out w24).mono ?_); rintro x w25 ⟨rfl, hb⟩; have Y25 := Lib.hid (Y24.out.grow hb); clear hb)
              | ((with_reducible refine load_row (o := ⟨some 36, _, _, _, _, _⟩) rfl _ _ rfl w20.heap.size ?_ _ (Pc.cells ⟨str tx, (sz : Int)⟩) _ Y25.out.r Tryz.underlying47 rfl ?_ ?_); (focus go_simp); (focus (exact HSZ.out)))
              | ((with_reducible refine build_ls pcOk pc_fill (o := ⟨some 37, _, _, _, _, _⟩) rfl _ rfl ⟨str tx, (sz : Int)⟩ ?_ ?_ (by decide) ?_); (focus (first | (go_simp; done) | (go_simp; rfl))); (focus (exact FT.out)); intro w33 hl hb hz; have Q33 := Lib.hid hl; have Y33 := Lib.hid (Y25.out.grow hb); clear hl hb hz)
              | (at_builtin; (with_reducible refine append_lsn pcOk pcNb rfl _ _ rfl w.heap.size (.slice ad m cc) Lk ?_ Y33.out.ln _ 0 1 1 [⟨str tx, (sz : Int)⟩] ?_ Q33.out (by decide) ?_ Y33.out.gw.size ?_); (focus (first | (go_simp; done) | (go_simp; rfl))); (focus (first | (go_simp; done) | (go_simp; rfl))); (focus (rw [HLM.out]; omega)); intro v34 w34 hN hb hg; have P34 := Lib.hid (RR.ownL (by decide) pcNb Y33.out.rr Y33.out.ln hg); have G34 := Lib.hid (gw_belowM Y33.out.gw hb); obtain ⟨m5, hm5⟩ : ∃ q, (Lk ++ [⟨str tx, (sz : Int)⟩] : List Pc).length = q := ⟨_, rfl⟩; obtain ⟨a34, c34, hv34, -, -⟩ := (hN.lso pcOk).ls pcOk (fun x hx => by (have := rdPcs_fit l1 e1 (k + 1)); rw [HK2.out] at this; exact this x hx); rw [hm5] at hv34; subst hv34; have N34 := Lib.hid hN; have M34 := Lib.hid hm5; clear hN hb hg hm5))
            go_roundw
            case rel => exact ⟨k + 1, _, l3, 0, a34, m5, c34, rfl, vint (by omega), by omega, M34.out, HK2, N34, P34, G34⟩
            case measure => simp [intOf]; omega
        · have hx2 : lx = l3 ∧ ex = e3 := by
            cases ok
            · rw [if_neg (by decide)] at hx
              unfold failL failE at hx
              rw [if_pos (.inl he3), if_pos (.inl he3)] at hx
              obtain ⟨r1, r2⟩ := Prod.mk.inj hx
              exact ⟨r1.symm, r2.symm⟩
            · rw [if_pos rfl] at hx
              obtain ⟨r1, r2⟩ := Prod.mk.inj hx
              exact ⟨r1.symm, r2.symm⟩
          obtain ⟨rfl, rfl⟩ := hx2
          have q3 : (ex == 0) = false := by simpa using he3
          clear hx
          go_wp2_with (first
            | (go_at_call 14; (with_reducible refine (rerr p lk 0 wr P.out).mono ?_); rintro x w' ⟨rfl, rfl⟩)
            | (go_at_call 36; (with_reducible refine (rtextR p 32 lk 0 wr P.out).mono ?_); rw [K1.out]; rintro x w20 ⟨rfl, hP, hu⟩; have P20 := Lib.hid hP; have N20 := Lib.hid (LsN.rr (by decide) pcNb N.out P.out (Gw.upd hu)); have G20 := Lib.hid (G.out.trans (Gw.upd hu)); clear hP hu)
            | ((with_reducible refine build_row (o := ⟨some 21, _, _, _, _, _⟩) rfl _ _ rfl (Pc.cells ⟨str tx, 0⟩) ?_ ?_); (focus (go_simp; exact zbuiltPc _)))
            | ((with_reducible refine alloc_row (o := ⟨some 6, _, _, _, _, _⟩) rfl _ rfl _ MZ.out ?_); intro w21 hr hb hz; have Y21 := Lib.hid (show PS w w21 p l2 e2 w20.heap.size (Pc.cells pcZ) (.slice ad m cc) Lk from ⟨P20.out.mono hb, hr, N20.out.kept hb, G20.out.trans (Gw.of_below hb), Nat.ne_of_lt P20.out.lt, G20.out.size⟩); have NV := Lib.hid (show (Value.slice ad m cc).ownBlock ≠ some w20.heap.size from fun h => Nat.lt_irrefl _ (N20.out.lt _ h).2); clear hr hb hz)
            | ((with_reducible refine store_row (o := ⟨none, _, _, _, _, _⟩) rfl _ (.tmp 6) _ rfl w20.heap.size (Pc.cells ⟨str tx, 0⟩) ?_ ?_ 47 _ Y21.out.r ?_ ?_ ?_ ?_); (focus go_simp); (focus (first | (go_simp; done) | (go_simp; rfl))); (focus (exact HSZ.out)); (focus rfl); (focus (exact pc_one _)); intro w22 hr hu; have Y22 := Lib.hid (Y21.out.setT (nob_pc pcZ) NV.out hr hu); clear hr hu)
            | (go_at_call 35; (with_reducible refine (rnumR p 256 l2 e2 w22 Y22.out.rr).mono ?_); rw [K2.out]; rintro x w23 ⟨rfl, hP, hu⟩; have Y23 := Lib.hid (Y22.out.rd hP hu); clear hP hu)
            | ((with_reducible refine store_cell (o := ⟨none, _, _, _, _, _⟩) rfl _ (.tmp 24) _ rfl w20.heap.size 1 (.int .i64 (sz : Int)) ?_ ?_ rfl rfl 47 _ Y23.out.r ?_ ?_ ?_); (focus go_simp); (focus (go_simp; first | done | rfl)); (focus (kernel_rfl)); (focus (show 1 < 2; decide)); intro w24 hr hu; have Y24 := Lib.hid (Y23.out.setT (nob_pc ⟨str tx, 0⟩) NV.out (show Row w24 w20.heap.size 47 (Pc.cells ⟨str tx, (sz : Int)⟩) from hr) hu); clear hr hu)
            | (go_at_call 14; (with_reducible refine (rerr p lx ex w24 Y24.out.rr).mono ?_); rintro x w' ⟨rfl, rfl⟩)
            | ((with_reducible refine load_row (o := ⟨some 36, _, _, _, _, _⟩) rfl _ _ rfl w20.heap.size ?_ _ (Pc.cells ⟨str tx, (sz : Int)⟩) _ Y24.out.r Tryz.underlying47 rfl ?_ ?_); (focus go_simp); (focus (exact HSZ.out)))
            | ((with_reducible refine build_ls pcOk pc_fill (o := ⟨some 37, _, _, _, _, _⟩) rfl _ rfl ⟨str tx, (sz : Int)⟩ ?_ ?_ (by decide) ?_); (focus (first | (go_simp; done) | (go_simp; rfl))); (focus (exact FT.out)); intro w33 hl hb hz; have Q33 := Lib.hid hl; have Y33 := Lib.hid (Y24.out.grow hb); clear hl hb hz)
            | (at_builtin; (with_reducible refine append_lsn pcOk pcNb rfl _ _ rfl w.heap.size (.slice ad m cc) Lk ?_ Y33.out.ln _ 0 1 1 [⟨str tx, (sz : Int)⟩] ?_ Q33.out (by decide) ?_ Y33.out.gw.size ?_); (focus (first | (go_simp; done) | (go_simp; rfl))); (focus (first | (go_simp; done) | (go_simp; rfl))); (focus (rw [HLM.out]; omega)); intro v34 w34 hN hb hg; have P34 := Lib.hid (RR.ownL (by decide) pcNb Y33.out.rr Y33.out.ln hg); have G34 := Lib.hid (gw_belowM Y33.out.gw hb); obtain ⟨m5, hm5⟩ : ∃ q, (Lk ++ [⟨str tx, (sz : Int)⟩] : List Pc).length = q := ⟨_, rfl⟩; obtain ⟨a34, c34, hv34, -, -⟩ := (hN.lso pcOk).ls pcOk (fun x hx => by (have := rdPcs_fit l1 e1 (k + 1)); rw [HK2.out] at this; exact this x hx); rw [hm5] at hv34; subst hv34; have N34 := Lib.hid hN; have M34 := Lib.hid hm5; clear hN hb hg hm5))
          go_roundw
          case rel => exact ⟨k + 1, _, lx, ex, a34, m5, c34, rfl, vint (by omega), by omega, M34.out, HK2, N34, P34, G34⟩
          case measure => simp [intOf]; omega
      · obtain rfl : n = k := by omega
        have hZ := HZ.out
        rw [HK.out] at hZ
        have HLS := Lib.hid (show lsLm Z = Lk by rw [← hZ]; unfold lsLm; rw [if_pos rfl])
        have HZ2 := Lib.hid (show Z.2 = (lk, 0) by rw [← hZ])
        clear hZ
        go_wp2_with (first
          | (go_at_call 14; (with_reducible refine (rerr p lk 0 wr P.out).mono ?_); rintro x w' ⟨rfl, rfl⟩))
        go_ret
        exact ⟨ad, m, cc, rfl, by rw [HLS.out]; exact HLM.out, by rw [HLS.out]; exact N.out, by rw [HZ2.out]; exact P.out, G.out⟩
    · have hq : (ek == 0) = false := by simpa using hek
      have hq2 : (ek != 0) = true := by simpa using hek
      have hst : (rdPcs n l1 e1).2 = (lk, ek) := by
        have h1 := STK.out k (by rw [HK.out]; exact hek) (n - k)
        rw [show k + (n - k) = n by omega, HK.out] at h1
        exact h1
      have HZ2 := Lib.hid (show Z.2 = (lk, ek) by rw [← HZ.out]; exact hst)
      have HLS := Lib.hid (show lsLm Z = [] by unfold lsLm; rw [HZ2.out]; dsimp only; rw [if_neg hek])
      clear hst
      by_cases hlt : k < n
      · have g2 : (k : Int) < (n : Int) := by omega
        go_wp2_with (first
          | (go_at_call 14; (with_reducible refine (rerr p lk ek wr P.out).mono ?_); rintro x w' ⟨rfl, rfl⟩))
        go_ret
        exact ⟨none, 0, 0, rfl, by rw [HLS.out]; rfl, by rw [HLS.out]; exact LsN.nil _ _, by rw [HZ2.out]; exact P.out, G.out⟩
      · obtain rfl : n = k := by omega
        go_wp2_with (first
          | (go_at_call 14; (with_reducible refine (rerr p lk ek wr P.out).mono ?_); rintro x w' ⟨rfl, rfl⟩))
        go_ret
        exact ⟨none, 0, 0, rfl, by rw [HLS.out]; rfl, by rw [HLS.out]; exact LsN.nil _ _, by rw [HZ2.out]; exact P.out, G.out⟩
end Go.Proofs.YtjolmjbhpokgmaaGreat.W
