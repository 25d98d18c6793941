/- LAYER 25 (board): Read of the reference. -/
import Derived.Test.YtkmdbdieloimiaaBdV
set_option linter.unusedSimpArgs false
set_option linter.unusedVariables false
namespace Go.Proofs.Ytkmdbdieloimiaa.W
open Go Go.ChangeShapes Go.WideShapes Go.ChangeAt Go.RowKit
open Go.Proofs.Ytkmdbdieloimiaa.P (enc dec)
open Go.Proofs.Ytkmdbdieloimiaa.S

theorem built_bd1 (x : Int) : Try.prog.built 25 [(0, .int .i64 x)] = some (bdC x none 0 0).toArray := by kernel_rfl
theorem built_sh1 (x : Int) : Try.prog.built 58 [(0, .int .i64 x)] = some (Sh.cells ⟨x, 0⟩).toArray := by kernel_rfl
/-- while one is read: the reader, the result's row, the value's row, its list -/
structure ZB (w0 w : World) (p : Nat) (l : List UInt8) (e : Int) (g2 gT : Nat) (C2 CT : List Value) (v : Value) (L : List Sh) : Prop where
  rr : RR w p l e
  r2 : Row w g2 25 C2
  rT : Row w gT 25 CT
  ln : LsN shE w w0.heap.size v L
  gw : Gw p w0 w
  n2 : p ≠ g2
  nT : p ≠ gT
  n2T : g2 ≠ gT
  b2 : w0.heap.size ≤ g2
  bT : w0.heap.size ≤ gT
section
variable {w0 w w' : World} {p g2 gT : Nat} {l : List UInt8} {e : Int} {C2 CT : List Value} {v : Value} {L : List Sh}
theorem ZB.rd (h : ZB w0 w p l e g2 gT C2 CT v L) {l' : List UInt8} {e' : Int} (hP : RR w' p l' e') (hu : Upd w w' p) : ZB w0 w' p l' e' g2 gT C2 CT v L :=
  ⟨hP, h.r2.upd hu h.n2.symm, h.rT.upd hu h.nT.symm, LsN.rr (by decide) shNb h.ln h.rr (Gw.upd hu), h.gw.trans (Gw.upd hu), h.n2, h.nT, h.n2T, h.b2, h.bT⟩
theorem ZB.grow (h : ZB w0 w p l e g2 gT C2 CT v L) (hb : Below w.heap.size w w') : ZB w0 w' p l e g2 gT C2 CT v L :=
  ⟨h.rr.mono hb, h.r2.below hb h.r2.lt, h.rT.below hb h.rT.lt, h.ln.kept hb, h.gw.trans (Gw.of_below hb), h.n2, h.nT, h.n2T, h.b2, h.bT⟩
theorem ZB.setT (h : ZB w0 w p l e g2 gT C2 CT v L) (hN : NoB CT) {CT' : List Value} (hr : Row w' gT 25 CT') (hu : Upd w w' gT) : ZB w0 w' p l e g2 gT C2 CT' v L :=
  ⟨h.rr.putZ h.nT h.rT hN hu, h.r2.upd hu h.n2T, hr, h.ln.upd hu (h.ln.own_neS h.rT (by decide)), h.gw.tail h.bT hu, h.n2, h.nT, h.n2T, h.b2, h.bT⟩
theorem ZB.set2 (h : ZB w0 w p l e g2 gT C2 CT v L) (hN : NoB C2) {C' : List Value} (hr : Row w' g2 25 C') (hu : Upd w w' g2) : ZB w0 w' p l e g2 gT C' CT v L :=
  ⟨h.rr.putZ h.n2 h.r2 hN hu, hr, h.rT.upd hu h.n2T.symm, h.ln.upd hu (h.ln.own_neS h.r2 (by decide)), h.gw.tail h.b2 hu, h.n2, h.nT, h.n2T, h.b2, h.bT⟩
theorem ZB.app (h : ZB w0 w p l e g2 gT C2 CT v L) {v' : Value} {L' : List Sh} (hN : LsN shE w' w0.heap.size v' L') (hb : Below w0.heap.size w w') (hg : w.grownBy w' v.ownBlock) : ZB w0 w' p l e g2 gT C2 CT v' L' :=
  ⟨RR.ownL (by decide) shNb h.rr h.ln hg, (hg.block g2 h.r2.lt (fun e => h.ln.own_neS h.r2 (by decide) e.symm)).trans h.r2, (hg.block gT h.rT.lt (fun e => h.ln.own_neS h.rT (by decide) e.symm)).trans h.rT, hN, gw_below25 h.gw hb, h.n2, h.nT, h.n2T, h.b2, h.bT⟩
/-- a share's row that is younger is written -/
theorem ZB.updS {w1 : World} (h1 : ZB w0 w1 p l e g2 gT C2 CT v L) {l' : List UInt8} {e' : Int} (h : ZB w0 w p l' e' g2 gT C2 CT v L) {t : TypeId} {C : List Value} (hq : Row w w1.heap.size t C) (hN : NoB C) (hu : Upd w w' w1.heap.size) : ZB w0 w' p l' e' g2 gT C2 CT v L :=
  ⟨h.rr.putZ (Nat.ne_of_lt h1.rr.lt) hq hN hu, h.r2.upd hu (Nat.ne_of_lt h1.r2.lt), h.rT.upd hu (Nat.ne_of_lt h1.rT.lt), h.ln.upd hu h1.ln.ne_new, h.gw.tail h1.gw.size hu, h.n2, h.nT, h.n2T, h.b2, h.bT⟩
end
set_option maxRecDepth 100000 in
set_option maxHeartbeats 32000000 in
theorem zbread (p : Nat) (l : List UInt8) (e : Int) (w : World) (h : RR w p l e) :
    Calls Try.prog 17 #[.pointer (some ⟨p, 0, none⟩)] w fun x w' => ∃ a c, x = .returned (.agg (bdC (readBd l e).1.cap a (readBd l e).1.L.length c).toArray) ∧ LsN shE w' w.heap.size (.slice a (readBd l e).1.L.length c) (readBd l e).1.L ∧ RR w' p (readBd l e).2.1 (readBd l e).2.2 ∧ Gw p w w' := by
  have H := Lib.hid h
  have LZS := Lib.hid bd_size
  have LZ := Lib.hid bd_zero
  have hpl := h.lt
  have hm1 := bd_num_le 1099511627776 (by decide) l e
  obtain ⟨a, l1, e1, hq1⟩ : ∃ x y z, numR 1099511627776 l e = (x, y, z) := ⟨_, _, _, rfl⟩
  rw [hq1] at hm1
  dsimp only at hm1
  have HQ1 := Lib.hid hq1
  have hm3 := bd_num_le 4 (by decide) l1 e1
  obtain ⟨n, l3, e3, hq3⟩ : ∃ x y z, numR 4 l1 e1 = (x, y, z) := ⟨_, _, _, rfl⟩
  rw [hq3] at hm3
  dsimp only at hm3
  have SZ := Lib.hid sh_size
  have EZ := Lib.hid sh_zero
  have HQ3 := Lib.hid hq3
  obtain ⟨Z, hZ⟩ : ∃ Z, readBd l e = Z := ⟨_, rfl⟩
  rw [hZ]
  have HZ := Lib.hid (show endBd ⟨(a : Int), (rdShs n l3 e3).1⟩ (rdShs n l3 e3).2 = Z by rw [← hZ]; unfold readBd; simp only [hq1, hq3])
  have STK := Lib.hid (rdShs_stuck l3 e3)
  have hn4 : n ≤ 4 := by omega
  have SIA := Lib.hid (show SI64 (a : Int) from ⟨by omega, by omega⟩)
  clear h hZ hq1 hq3 hm3
  go_enter Try.func17, Try.ntmps17
  go_wp2_with (first
    | ((with_reducible refine alloc_row (o := ⟨some 2, _, _, _, _, _⟩) rfl _ rfl _ LZ.out ?_); intro w1 hr hb hz; have R1 := Lib.hid hr; have P1 := Lib.hid (H.out.mono hb); have G1 := Lib.hid (Gw.of_below (g := p) hb); have NP := Lib.hid (show p ≠ w.heap.size by omega); clear hr hb hz)
    | (go_at_call 48; (with_reducible refine (rnumR p 1099511627776 l e w1 P1.out).mono ?_); rw [HQ1.out]; rintro x w2 ⟨rfl, hP, hu⟩; have P2 := Lib.hid hP; have R2 := Lib.hid (R1.out.upd hu NP.out.symm); have G2 := Lib.hid (G1.out.trans (Gw.upd hu)); clear hP hu)
    | ((with_reducible refine build_row (o := ⟨some 9, _, _, _, _, _⟩) rfl _ _ rfl (bdC (a : Int) none 0 0) ?_ ?_); (focus (go_simp; exact built_bd1 _)))
    | ((with_reducible refine alloc_row (o := ⟨some 3, _, _, _, _, _⟩) rfl _ rfl _ LZ.out ?_); intro w3 hr hb hz; have T3 := Lib.hid hr; have Y3 := Lib.hid (show ZB w w3 p l1 e1 w.heap.size w2.heap.size (bdC 0 none 0 0) (bdC 0 none 0 0) (.slice none 0 0) [] from ⟨P2.out.mono hb, R2.out.below hb R2.out.lt, hr, LsN.nil _ _, G2.out.trans (Gw.of_below hb), NP.out, Nat.ne_of_lt P2.out.lt, Nat.ne_of_lt R2.out.lt, Nat.le_refl _, G2.out.size⟩); clear hr hb hz)
    | ((with_reducible refine store_row (o := ⟨none, _, _, _, _, _⟩) rfl _ (.tmp 3) _ rfl w2.heap.size (bdC (a : Int) none 0 0) ?_ ?_ 25 _ T3.out ?_ ?_ ?_ ?_); (focus go_simp); (focus (first | (go_simp; done) | (go_simp; rfl))); (focus (exact LZS.out)); (focus rfl); (focus (exact bd_one _ _ _ _)); intro w4 hr hu; have Y4 := Lib.hid (Y3.out.setT (nob_bd _ _ _ _) hr hu); clear hr hu)
    | (go_at_call 48; (with_reducible refine (rnumR p 4 l1 e1 w4 Y4.out.rr).mono ?_); rw [HQ3.out]; rintro x w11 ⟨rfl, hP, hu⟩; have Y11 := Lib.hid (Y4.out.rd hP hu); clear hP hu))
  go_loopw [5] (fun i wr => ∃ (k : Nat) (Lk : List Sh) (lk : List UInt8) (ek : Int) (ad : Option Addr) (m cc : Nat), i = .int .i64 (k : Int) ∧ k ≤ n ∧ Lk.length = m ∧ Hid (rdShs k l3 e3 = (Lk, lk, ek)) ∧ Hid (ZB w wr p lk ek w.heap.size w2.heap.size (bdC 0 none 0 0) (bdC (a : Int) ad m cc) (.slice ad m cc) Lk)) (fun i _ => n - (intOf i).toNat)
  case atStart => exact ⟨0, [], l3, e3, none, 0, 0, rfl, Nat.zero_le _, rfl, Lib.hid rfl, Y11⟩
  case round =>
    obtain ⟨k, Lk, lk, ek, ad, m, cc, rfl, hk, hlm, HK, Y⟩ := hrel
    have HLM := Lib.hid hlm
    have hmk : m ≤ 4 := by have := rdShs_len l3 e3 k; rw [HK.out] at this; dsimp only at this; omega
    clear hlm
    by_cases hek : ek = 0
    · subst hek
      by_cases hlt : k < n
      · obtain ⟨s, lx, ex, h1⟩ : ∃ x y z, numR 4 lk 0 = (x, y, z) := ⟨_, _, _, rfl⟩
        obtain ⟨t, ly, ey, h2⟩ : ∃ x y z, numR 1099511627776 lx ex = (x, y, z) := ⟨_, _, _, rfl⟩
        have hrd : rdSh lk 0 = (⟨(s : Int), (t : Int)⟩, ly, ey) := by unfold rdSh; simp only [h1, h2]
        have hft := rdShs_fit l3 e3 (k + 1)
        have HK2 := Lib.hid (show rdShs (k + 1) l3 e3 = (Lk ++ [⟨(s : Int), (t : Int)⟩], ly, ey) by simp only [rdShs]; rw [HK.out]; dsimp only; rw [hrd])
        rw [HK2.out] at hft
        have FT := Lib.hid hft
        have FS := Lib.hid (hft ⟨(s : Int), (t : Int)⟩ (by simp))
        have K1 := Lib.hid h1
        have K2 := Lib.hid h2
        have g2 : (k : Int) < (n : Int) := by omega
        clear hrd hft h1 h2
        go_wp2_with (first
          | (go_at_call 22; (with_reducible refine (rerr p lk 0 wr Y.out.rr).mono ?_); rintro x w' ⟨rfl, rfl⟩)
          | (go_at_call 48; (with_reducible refine (rnumR p 4 lk 0 wr Y.out.rr).mono ?_); rw [K1.out]; rintro x w20 ⟨rfl, hP, hu⟩; have Y20 := Lib.hid (Y.out.rd hP hu); clear hP hu)
          | ((with_reducible refine build_row (o := ⟨some 24, _, _, _, _, _⟩) rfl _ _ rfl (Sh.cells ⟨(s : Int), 0⟩) ?_ ?_); (focus (go_simp; exact built_sh1 _)))
          | ((with_reducible refine alloc_row (o := ⟨some 6, _, _, _, _, _⟩) rfl _ rfl _ EZ.out ?_); intro w21 hr hb hz; have S21 := Lib.hid hr; have Y21 := Lib.hid (Y20.out.grow hb); clear hr hb hz)
          | ((with_reducible refine store_row (o := ⟨none, _, _, _, _, _⟩) rfl _ (.tmp 6) _ rfl w20.heap.size (Sh.cells ⟨(s : Int), 0⟩) ?_ ?_ 58 _ S21.out ?_ ?_ ?_ ?_); (focus go_simp); (focus (first | (go_simp; done) | (go_simp; rfl))); (focus (exact SZ.out)); (focus rfl); (focus (exact shOk.one _)); intro w22 hr hu; have S22 := Lib.hid hr; have Y22 := Lib.hid (Y20.out.updS Y21.out S21.out nob_sh0 hu); clear hr hu)
          | (go_at_call 48; (with_reducible refine (rnumR p 1099511627776 lx ex w22 Y22.out.rr).mono ?_); rw [K2.out]; rintro x w23 ⟨rfl, hP, hu⟩; have Y23 := Lib.hid (Y22.out.rd hP hu); have S23 := Lib.hid (S22.out.upd hu (Nat.ne_of_gt Y20.out.rr.lt)); clear hP hu)
          | ((with_reducible refine store_cell (o := ⟨none, _, _, _, _, _⟩) rfl _ (.tmp 27) _ rfl w20.heap.size 1 (.int .i64 (t : Int)) ?_ ?_ rfl rfl 58 _ S23.out ?_ ?_ ?_); (focus go_simp); (focus (go_simp; first | done | rfl)); (focus (kernel_rfl)); (focus (show 1 < 2; decide)); intro w24 hr hu; have S24 := Lib.hid (show Row w24 w20.heap.size 58 (Sh.cells ⟨(s : Int), (t : Int)⟩) from hr); have Y24 := Lib.hid (Y20.out.updS Y23.out S23.out (nob_sh _) hu); obtain ⟨q0, q1⟩ := Y24.out.rT.k2; clear hr hu)
          | ((with_reducible refine load_row (o := ⟨some 30, _, _, _, _, _⟩) rfl _ _ rfl w20.heap.size ?_ _ (Sh.cells ⟨(s : Int), (t : Int)⟩) _ S24.out Try.underlying58 rfl ?_ ?_); (focus go_simp); (focus (exact SZ.out)))
          | ((with_reducible refine build_ls shOk sh_fill1 (o := ⟨some 31, _, _, _, _, _⟩) rfl _ rfl ⟨(s : Int), (t : Int)⟩ ?_ FS.out (by decide) ?_); (focus (first | (go_simp; done) | (go_simp; rfl))); intro w25 hl hb hz; have Q25 := Lib.hid hl; have Y25 := Lib.hid (Y24.out.grow hb); clear hl hb hz q0 q1)
          | (at_builtin; (with_reducible refine append_lsn shOk shNb rfl _ _ rfl w.heap.size (.slice ad m cc) Lk ?_ Y25.out.ln _ 0 1 1 [⟨(s : Int), (t : Int)⟩] ?_ Q25.out (by decide) ?_ Y25.out.gw.size ?_); (focus (first | (go_simp; done) | (go_simp; rfl))); (focus (first | (go_simp; done) | (go_simp; rfl))); (focus (rw [HLM.out]; omega)); intro v26 w26 hN hb hg; have Y26 := Lib.hid (Y25.out.app hN hb hg); obtain ⟨m5, hm5⟩ : ∃ q, (Lk ++ [(⟨(s : Int), (t : Int)⟩ : Sh)]).length = q := ⟨_, rfl⟩; obtain ⟨a26, c26, hv26, -, -⟩ := (hN.lso shOk).ls shOk FT.out; rw [hm5] at hv26; subst hv26; have M5 := Lib.hid hm5; clear hN hb hg hm5)
          | ((with_reducible refine store_cell (o := ⟨none, _, _, _, _, _⟩) rfl _ (.tmp 33) _ rfl w2.heap.size 1 (.slice a26 m5 c26) ?_ ?_ rfl rfl 25 _ Y26.out.rT ?_ ?_ ?_); (focus go_simp); (focus (go_simp; first | done | rfl)); (focus (kernel_rfl)); (focus (show 1 < 2; decide)); intro w27 hr hu; have Y27 := Lib.hid (Y26.out.setT (nob_bd _ _ _ _) (show Row w27 w2.heap.size 25 (bdC (a : Int) a26 m5 c26) from hr) hu); clear hr hu))
        go_roundw
        case rel => exact ⟨k + 1, _, ly, ey, a26, m5, c26, vint (by omega), by omega, M5.out, HK2, Y27⟩
        case measure => simp [intOf]; omega
      · obtain rfl : n = k := by omega
        have hfit : ∀ s ∈ Lk, s.fit := by have := rdShs_fit l3 e3 n; rw [HK.out] at this; exact this
        have hls := fin_bd (Y.out.ln.lso shOk) HLM.out hfit
        obtain ⟨ck, hck⟩ : ∃ x, Bd.ok ⟨(a : Int), Lk⟩ = x := ⟨_, rfl⟩
        have HC : Hid (Calls Try.prog 49 #[.agg (bdC (a : Int) ad m cc).toArray] wr fun x w' => x = .returned (.bool ck) ∧ Below wr.heap.size wr w') := Lib.hid (by rw [← hck]; exact zbcheck (.agg (bdC (a : Int) ad m cc).toArray) ⟨(a : Int), Lk⟩ wr (bdv SIA.out hls) (by show Lk.length ≤ 8; rw [HLM.out]; omega))
        have hZ := HZ.out
        rw [HK.out] at hZ
        unfold endBd at hZ
        dsimp only at hZ
        rw [if_pos rfl, hck] at hZ
        clear hls hfit hck hm1
        cases ck
        · rw [if_neg (by decide)] at hZ
          subst hZ
          go_wp2_with (first
            | (go_at_call 22; (with_reducible refine (rerr p lk 0 wr Y.out.rr).mono ?_); rintro x w' ⟨rfl, rfl⟩)
            | ((with_reducible refine load_rowg (o := ⟨some 38, _, _, _, _, _⟩) 3 true 37 rfl _ _ rfl w2.heap.size _ (bdC (a : Int) ad m cc) _ Y.out.rT Try.underlying25 rfl ?_ ?_ ?_ ?_ ?_); (focus rfl); (focus (first | (go_simp; done) | (go_simp; rfl))); (focus go_simp); (focus (exact LZS.out)))
            | (go_at_call 49; (with_reducible refine HC.out.mono ?_); rintro x w40 ⟨rfl, hb⟩; have Y40 := Lib.hid (Y.out.grow hb); clear hb)
            | (go_at_call 50; (with_reducible refine (rfail p lk 0 3 w40 Y40.out.rr).mono ?_); rintro x w41 ⟨rfl, hP, hu⟩; have Y41 := Lib.hid (Y40.out.rd (show RR w41 p [] 3 from hP) hu); clear hP hu)
            | (go_at_call 22; (with_reducible refine (rerr p [] 3 w41 Y41.out.rr).mono ?_); rintro x w' ⟨rfl, rfl⟩)
            | ((with_reducible refine build_row (o := ⟨some 47, _, _, _, _, _⟩) rfl _ _ rfl (bdC 0 none 0 0) ?_ ?_); (focus (go_simp; exact built_bdz)))
            | ((with_reducible refine store_row (o := ⟨none, _, _, _, _, _⟩) rfl _ (.tmp 2) _ rfl w.heap.size (bdC 0 none 0 0) ?_ ?_ 25 _ Y41.out.r2 ?_ ?_ ?_ ?_); (focus go_simp); (focus (first | (go_simp; done) | (go_simp; rfl))); (focus (exact LZS.out)); (focus rfl); (focus (exact bd_one _ _ _ _)); intro w42 hr hu; have Y42 := Lib.hid (Y41.out.set2 (nob_bd _ _ _ _) hr hu); clear hr hu))
          exact bodyPost_ret (results_cell_row rfl _ _ w.heap.size 25 _ _ _ (by go_simp) Y42.out.r2 Try.underlying25 rfl LZS.out) rfl ⟨_, _, rfl, LsN.nil _ _, Y42.out.rr, Y42.out.gw⟩
        · rw [if_pos rfl] at hZ
          subst hZ
          go_wp2_with (first
            | (go_at_call 22; (with_reducible refine (rerr p lk 0 wr Y.out.rr).mono ?_); rintro x w' ⟨rfl, rfl⟩)
            | ((with_reducible refine load_rowg (o := ⟨some 38, _, _, _, _, _⟩) 3 true 37 rfl _ _ rfl w2.heap.size _ (bdC (a : Int) ad m cc) _ Y.out.rT Try.underlying25 rfl ?_ ?_ ?_ ?_ ?_); (focus rfl); (focus (first | (go_simp; done) | (go_simp; rfl))); (focus go_simp); (focus (exact LZS.out)))
            | (go_at_call 49; (with_reducible refine HC.out.mono ?_); rintro x w40 ⟨rfl, hb⟩; have Y40 := Lib.hid (Y.out.grow hb); clear hb)
            | (go_at_call 22; (with_reducible refine (rerr p lk 0 w40 Y40.out.rr).mono ?_); rintro x w' ⟨rfl, rfl⟩)
            | ((with_reducible refine load_row (o := ⟨some 48, _, _, _, _, _⟩) rfl _ _ rfl w2.heap.size ?_ _ (bdC (a : Int) ad m cc) _ Y40.out.rT Try.underlying25 rfl ?_ ?_); (focus go_simp); (focus (exact LZS.out)))
            | ((with_reducible refine store_row (o := ⟨none, _, _, _, _, _⟩) rfl _ (.tmp 2) _ rfl w.heap.size (bdC (a : Int) ad m cc) ?_ ?_ 25 _ Y40.out.r2 ?_ ?_ ?_ ?_); (focus go_simp); (focus (first | (go_simp; done) | (go_simp; rfl))); (focus (exact LZS.out)); (focus rfl); (focus (exact bd_one _ _ _ _)); intro w42 hr hu; have Y42 := Lib.hid (Y40.out.set2 (nob_bd _ _ _ _) hr hu); clear hr hu))
          exact bodyPost_ret (results_cell_row rfl _ _ w.heap.size 25 _ _ _ (by go_simp) Y42.out.r2 Try.underlying25 rfl LZS.out) rfl ⟨ad, cc, (by rw [HLM.out]), (by rw [HLM.out]; exact Y42.out.ln), Y42.out.rr, Y42.out.gw⟩
    · have hq : (ek == 0) = false := by simpa using hek
      have hq2 : (ek != 0) = true := by simpa using hek
      have hZ := HZ.out
      have hst : (rdShs n l3 e3).2 = (lk, ek) := by
        have h1 := STK.out k (by rw [HK.out]; exact hek) (n - k)
        rw [show k + (n - k) = n by omega, HK.out] at h1
        exact h1
      have hz2 : Z = (bdZ, lk, ek) := by
        rw [← hZ]; unfold endBd; rw [hst]; dsimp only; rw [if_neg hek]
      subst hz2
      clear hZ hst
      by_cases hlt : k < n
      · have g2 : (k : Int) < (n : Int) := by omega
        go_wp2_with (first
          | (go_at_call 22; (with_reducible refine (rerr p lk ek wr Y.out.rr).mono ?_); rintro x w' ⟨rfl, rfl⟩)
          | ((with_reducible refine build_row (o := ⟨some 47, _, _, _, _, _⟩) rfl _ _ rfl (bdC 0 none 0 0) ?_ ?_); (focus (go_simp; exact built_bdz)))
          | ((with_reducible refine store_row (o := ⟨none, _, _, _, _, _⟩) rfl _ (.tmp 2) _ rfl w.heap.size (bdC 0 none 0 0) ?_ ?_ 25 _ Y.out.r2 ?_ ?_ ?_ ?_); (focus go_simp); (focus (first | (go_simp; done) | (go_simp; rfl))); (focus (exact LZS.out)); (focus rfl); (focus (exact bd_one _ _ _ _)); intro w42 hr hu; have Y42 := Lib.hid (Y.out.set2 (nob_bd _ _ _ _) hr hu); clear hr hu))
        exact bodyPost_ret (results_cell_row rfl _ _ w.heap.size 25 _ _ _ (by go_simp) Y42.out.r2 Try.underlying25 rfl LZS.out) rfl ⟨_, _, rfl, LsN.nil _ _, Y42.out.rr, Y42.out.gw⟩
      · obtain rfl : n = k := by omega
        go_wp2_with (first
          | (go_at_call 22; (with_reducible refine (rerr p lk ek wr Y.out.rr).mono ?_); rintro x w' ⟨rfl, rfl⟩)
          | ((with_reducible refine build_row (o := ⟨some 47, _, _, _, _, _⟩) rfl _ _ rfl (bdC 0 none 0 0) ?_ ?_); (focus (go_simp; exact built_bdz)))
          | ((with_reducible refine store_row (o := ⟨none, _, _, _, _, _⟩) rfl _ (.tmp 2) _ rfl w.heap.size (bdC 0 none 0 0) ?_ ?_ 25 _ Y.out.r2 ?_ ?_ ?_ ?_); (focus go_simp); (focus (first | (go_simp; done) | (go_simp; rfl))); (focus (exact LZS.out)); (focus rfl); (focus (exact bd_one _ _ _ _)); intro w42 hr hu; have Y42 := Lib.hid (Y.out.set2 (nob_bd _ _ _ _) hr hu); clear hr hu))
        exact bodyPost_ret (results_cell_row rfl _ _ w.heap.size 25 _ _ _ (by go_simp) Y42.out.r2 Try.underlying25 rfl LZS.out) rfl ⟨_, _, rfl, LsN.nil _ _, Y42.out.rr, Y42.out.gw⟩
end Go.Proofs.Ytkmdbdieloimiaa.W
