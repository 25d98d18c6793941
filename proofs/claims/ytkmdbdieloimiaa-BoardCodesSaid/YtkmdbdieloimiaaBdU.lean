/- LAYER 25 (board): Read of the program. -/
import Derived.Test.YtkmdbdieloimiaaBdT
import Derived.Test.YtkmdbdieloimiaaBdI
import Derived.Test.YtkmdbdieloimiaaBdJ
set_option linter.unusedSimpArgs false
set_option linter.unusedVariables false
namespace Go.Proofs.Ytkmdbdieloimiaa.W
open Go Go.ChangeShapes Go.WideShapes Go.ChangeAt Go.RowKit
open Go.Proofs.Ytkmdbdieloimiaa.P (enc dec)
open Go.Proofs.Ytkmdbdieloimiaa.S

theorem nob_bd (cp : Int) (a : Option Addr) (n c : Nat) : NoB (bdC cp a n c) := by intro x hx; simp [B] at hx
theorem nob_sh (s : Sh) : NoB s.cells := shNb.c s
theorem nob_sh0 : NoB (Value.agg #[.int .i64 0, .int .i64 0]).cells.toList := shNb.z
theorem gw_below25 {p : Nat} {w w1 w2 : World} (h : Gw p w w1) (hb : Below w.heap.size w1 w2) : Gw p w w2 := ⟨hb.os.trans h.os, hb.tape.trans h.tape, hb.output.trans h.output, Nat.le_trans h.size hb.size, fun k hk hn => (hb.block k hk).trans (h.block k hk hn)⟩
theorem RP.putZ {w w' : World} {p g : Nat} {t : TypeId} {l : List UInt8} {e : Int} {L : List Value} (h : RP w p l e) (hpg : p ≠ g) (hq : Row w g t L) (hnb : NoB L) (hu : Upd w w' g) : RP w' p l e := by
  obtain ⟨a, cap, hh, hr⟩ := h.ex
  exact ⟨⟨a, cap, by rw [hu.block p hpg]; exact hh, hr.upd' hu (hr.apart hq (fun x hx => hnb x (by simpa using hx)))⟩, h.small, h.hnone⟩
theorem RR.putZ {w w' : World} {p g : Nat} {t : TypeId} {l : List UInt8} {e : Int} {L : List Value} (h : RR w p l e) (hpg : p ≠ g) (hq : Row w g t L) (hnb : NoB L) (hu : Upd w w' g) : RR w' p l e := by
  obtain ⟨a, cap, hh, hr⟩ := h.ex
  exact ⟨⟨a, cap, by rw [hu.block p hpg]; exact hh, hr.upd' hu (hr.apart hq (fun x hx => hnb x (by simpa using hx)))⟩, h.small, h.hnone⟩
theorem LsN.own_neS {E : El Sh} {w : World} {v : Value} {L : List Sh} {base g : Nat} {t : TypeId} {C : List Value} (h : LsN E w base v L) (hr : Row w g t C) (ht : E.eT ≠ t) : v.ownBlock ≠ some g := by
  rcases h with ⟨rfl, -⟩ | ⟨b, cap, cur, rfl, -, hh, -⟩
  · simp [Value.ownBlock]
  · intro e
    have : b = g := by simpa [Value.ownBlock] using e
    subst this
    unfold Row at hr
    rw [hh] at hr
    simp at hr
    exact ht hr.2
theorem LsN.ne_new {E : El Sh} {w : World} {v : Value} {L : List Sh} {base : Nat} (h : LsN E w base v L) : v.ownBlock ≠ some w.heap.size := fun e => absurd (h.lt _ e).2 (Nat.lt_irrefl _)
theorem sh_fill1 (y : Sh) : Instr.fill (fun i => some (i * shE.k, shE.k)) ((Array.range (1 * shE.k)).map (shE.z.cells[· % shE.z.cells.size]!)) [(0, .agg (shE.cells y).toArray)] = some (shE.cells y).toArray := by
  kernel_rfl
theorem built_bd2 (x : Int) (a : Option Addr) (n c : Nat) : Try.prog.built 25 [(0, .int .i64 x), (1, .slice a n c)] = some (bdC x a n c).toArray := by kernel_rfl
theorem built_bdz : Try.prog.built 25 [] = some (bdC 0 none 0 0).toArray := by kernel_rfl
set_option maxRecDepth 100000 in
set_option maxHeartbeats 4000000 in
theorem preadsh (p : Nat) (l : List UInt8) (e : Int) (w : World) (h : RP w p l e) :
    Calls Try.prog 46 #[.pointer (some ⟨p, 0, none⟩)] w fun x w' => x = .returned (.agg (rdSh l e).1.cells.toArray) ∧ RP w' p (rdSh l e).2.1 (rdSh l e).2.2 ∧ Gw p w w' := by
  have H := Lib.hid h
  have hpl := h.lt
  have SZ := Lib.hid sh_size
  have EZ := Lib.hid sh_zero
  obtain ⟨a, l1, e1, hq1⟩ : ∃ x y z, numR 4 l e = (x, y, z) := ⟨_, _, _, rfl⟩
  obtain ⟨b, l2, e2, hq2⟩ : ∃ x y z, numR 1099511627776 l1 e1 = (x, y, z) := ⟨_, _, _, rfl⟩
  rw [show rdSh l e = (⟨(a : Int), (b : Int)⟩, l2, e2) by unfold rdSh; simp only [hq1, hq2]]
  have HQ1 := Lib.hid hq1
  have HQ2 := Lib.hid hq2
  clear h hq1 hq2
  go_enter Try.func46, Try.ntmps46
  go_wp2_with (first
    | ((with_reducible refine alloc_row (o := ⟨some 2, _, _, _, _, _⟩) rfl _ rfl _ EZ.out ?_); intro w1 hr hb hz; have R1 := Lib.hid hr; have P1 := Lib.hid (H.out.mono hb); have G1 := Lib.hid (Gw.of_below (g := p) hb); have NP := Lib.hid (show p ≠ w.heap.size by omega); clear hr hb hz)
    | (go_at_call 44; (with_reducible refine (pnumR p 4 l e w1 P1.out).mono ?_); rw [HQ1.out]; rintro x w2 ⟨rfl, hP, hu⟩; have P2 := Lib.hid hP; have R2 := Lib.hid (R1.out.upd hu NP.out.symm); have G2 := Lib.hid (G1.out.trans (Gw.upd hu)); clear hP hu)
    | (go_at_call 44; (with_reducible refine (pnumR p 1099511627776 l1 e1 w2 P2.out).mono ?_); rw [HQ2.out]; rintro x w3 ⟨rfl, hP, hu⟩; have P3 := Lib.hid hP; have R3 := Lib.hid (R2.out.upd hu NP.out.symm); have G3 := Lib.hid (G2.out.trans (Gw.upd hu)); clear hP hu)
    | ((with_reducible refine build_row (o := ⟨some 7, _, _, _, _, _⟩) rfl _ _ rfl (Sh.cells ⟨(a : Int), (b : Int)⟩) ?_ ?_); (focus (go_simp; exact built_sh _ _)))
    | ((with_reducible refine store_row (o := ⟨none, _, _, _, _, _⟩) rfl _ (.tmp 2) _ rfl w.heap.size (Sh.cells ⟨(a : Int), (b : Int)⟩) ?_ ?_ 58 _ R3.out ?_ ?_ ?_ ?_); (focus go_simp); (focus (first | (go_simp; done) | (go_simp; rfl))); (focus (exact SZ.out)); (focus rfl); (focus (exact shOk.one _)); intro w4 hr hu; have R4 := Lib.hid hr; have P4 := Lib.hid (P3.out.putZ NP.out R3.out nob_sh0 hu); have G4 := Lib.hid (G3.out.tail (Nat.le_refl _) hu); clear hr hu))
  exact bodyPost_ret (results_cell_row rfl _ _ w.heap.size 58 _ _ _ (by go_simp) R4.out Try.underlying58 rfl SZ.out) rfl ⟨rfl, P4.out, G4.out⟩
/-- what lists.Read gives: none behind an error -/
def lsS (q : List Sh × List UInt8 × Int) : List Sh := if q.2.2 = 0 then q.1 else []
set_option maxRecDepth 100000 in
set_option maxHeartbeats 16000000 in
theorem plsread (p : Nat) (l : List UInt8) (e : Int) (w : World) (h : RP w p l e) (n : Nat) (l1 : List UInt8) (e1 : Int) (hq : numR 4 l e = (n, l1, e1)) (hn : n ≤ 4) :
    Calls Try.prog 45 #[.pointer (some ⟨p, 0, none⟩), .int .i64 4, .func (.func 46) #[] #[]] w fun x w' => ∃ a m c, x = .returned (.slice a m c) ∧ (lsS (rdShs n l1 e1)).length = m ∧ LsN shE w' w.heap.size (.slice a m c) (lsS (rdShs n l1 e1)) ∧ RP w' p (rdShs n l1 e1).2.1 (rdShs n l1 e1).2.2 ∧ Gw p w w' := by
  have H := Lib.hid h
  have HQ := Lib.hid hq
  obtain ⟨Z, hZ⟩ : ∃ Z, rdShs n l1 e1 = Z := ⟨_, rfl⟩
  rw [hZ]
  have HZ := Lib.hid hZ
  clear h hq hZ
  go_enter Try.func45, Try.ntmps45
  go_wp2_with (first
    | (go_at_call 44; (with_reducible refine (pnumR p 4 l e w H.out).mono ?_); rw [HQ.out]; rintro x w1 ⟨rfl, hP, hu⟩; have P1 := Lib.hid hP; have G1 := Lib.hid (Gw.upd hu); clear hP hu))
  go_loopw [7, 11] (fun v i wr => ∃ (k : Nat) (Lk : List Sh) (lk : List UInt8) (ek : Int) (ad : Option Addr) (m cc : Nat), v = .slice ad m cc ∧ i = .int .i64 (k : Int) ∧ k ≤ n ∧ Lk.length = m ∧ Hid (rdShs k l1 e1 = (Lk, lk, ek)) ∧ Hid (LsN shE wr w.heap.size (.slice ad m cc) Lk) ∧ Hid (RP wr p lk ek) ∧ Hid (Gw p w wr)) (fun _ i _ => n - (intOf i).toNat)
  case atStart => exact ⟨0, [], l1, e1, none, 0, 0, rfl, rfl, Nat.zero_le _, rfl, Lib.hid rfl, Lib.hid (LsN.nil _ _), P1, G1⟩
  case round =>
    obtain ⟨k, Lk, lk, ek, ad, m, cc, rfl, rfl, hk, hlm, HK, N, P, G⟩ := hrel
    have HLM := Lib.hid hlm
    have hmk : m ≤ 4 := by have := rdShs_len l1 e1 k; rw [HK.out] at this; dsimp only at this; omega
    clear hlm
    by_cases hlt : k < n
    · obtain ⟨s, lx, ex, hrd⟩ : ∃ x y z, rdSh lk ek = (x, y, z) := ⟨_, _, _, rfl⟩
      have hft := rdShs_fit l1 e1 (k + 1)
      have HRH := Lib.hid (preadsh p lk ek wr P.out)
      rw [hrd] at HRH
      have HK2 := Lib.hid (show rdShs (k + 1) l1 e1 = (Lk ++ [s], lx, ex) by simp only [rdShs]; rw [HK.out]; dsimp only; rw [hrd])
      rw [HK2.out] at hft
      have FT := Lib.hid hft
      have FS := Lib.hid (hft s (by simp))
      have g2 : (k : Int) < (n : Int) := by omega
      clear hrd hft
      go_wp2_with (first
        | (go_at_call 46; (with_reducible refine HRH.out.mono ?_); rintro x w3 ⟨rfl, hP, hg⟩; have P3 := Lib.hid hP; have N3 := Lib.hid (LsN.rp shNb N.out P.out hg); have G3 := Lib.hid (G.out.trans hg); clear hP hg)
        | ((with_reducible refine build_ls shOk sh_fill1 (o := ⟨some 17, _, _, _, _, _⟩) rfl _ rfl s ?_ FS.out (by decide) ?_); (focus (first | (go_simp; done) | (go_simp; rfl))); intro w4 hl hb hz; have Q4 := Lib.hid hl; have P4 := Lib.hid (P3.out.mono hb); have N4 := Lib.hid (N3.out.kept hb); have G4 := Lib.hid (G3.out.trans (Gw.of_below hb)); clear hl hb hz)
        | (at_builtin; (with_reducible refine append_lsn shOk shNb rfl _ _ rfl w.heap.size (.slice ad m cc) Lk ?_ N4.out _ 0 1 1 [s] ?_ Q4.out (by decide) ?_ G4.out.size ?_); (focus (first | (go_simp; done) | (go_simp; rfl))); (focus (first | (go_simp; done) | (go_simp; rfl))); (focus (rw [HLM.out]; omega)); intro v5 w5 hN hb hg; have P5 := Lib.hid (RP.ownL shNb P4.out N4.out hg); have G5 := Lib.hid (gw_below25 G4.out hb); obtain ⟨m5, hm5⟩ : ∃ q, (Lk ++ [s]).length = q := ⟨_, rfl⟩; obtain ⟨a5, c5, hv5, -, -⟩ := (hN.lso shOk).ls shOk FT.out; rw [hm5] at hv5; subst hv5; have N5 := Lib.hid hN; have M5 := Lib.hid hm5; clear hN hb hg hm5))
      go_roundw
      case rel => exact ⟨k + 1, _, lx, ex, a5, m5, c5, rfl, vint (by omega), by omega, M5.out, HK2, N5, P5, G5⟩
      case measure => simp [intOf]; omega
    · obtain rfl : n = k := by omega
      have hZ := HZ.out
      rw [HK.out] at hZ
      by_cases hek : ek = 0
      · subst hek
        have HLS := Lib.hid (show lsS Z = Lk by rw [← hZ]; unfold lsS; rw [if_pos rfl])
        have HZ2 := Lib.hid (show Z.2 = (lk, 0) by rw [← hZ])
        clear hZ
        go_wp2_with (first
          | (go_at_call 21; (with_reducible refine (perr p lk 0 wr P.out).mono ?_); rintro x w' ⟨rfl, rfl⟩))
        go_ret
        exact ⟨ad, m, cc, rfl, by rw [HLS.out]; exact HLM.out, by rw [HLS.out]; exact N.out, by rw [HZ2.out]; exact P.out, G.out⟩
      · have hq : (ek == 0) = false := by simpa using hek
        have hq2 : (ek != 0) = true := by simpa using hek
        have HLS := Lib.hid (show lsS Z = [] by rw [← hZ]; unfold lsS; dsimp only; rw [if_neg hek])
        have HZ2 := Lib.hid (show Z.2 = (lk, ek) by rw [← hZ])
        clear hZ
        go_wp2_with (first
          | (go_at_call 21; (with_reducible refine (perr p lk ek wr P.out).mono ?_); rintro x w' ⟨rfl, rfl⟩))
        go_ret
        exact ⟨none, 0, 0, rfl, by rw [HLS.out]; rfl, by rw [HLS.out]; exact LsN.nil _ _, by rw [HZ2.out]; exact P.out, G.out⟩
set_option maxRecDepth 100000 in
set_option maxHeartbeats 16000000 in
theorem pbread (p : Nat) (l : List UInt8) (e : Int) (w : World) (h : RP w p l e) :
    Calls Try.prog 16 #[.pointer (some ⟨p, 0, none⟩)] w fun x w' => ∃ a c, x = .returned (.agg (bdC (readBd l e).1.cap a (readBd l e).1.L.length c).toArray) ∧ LsN shE w' w.heap.size (.slice a (readBd l e).1.L.length c) (readBd l e).1.L ∧ RP w' p (readBd l e).2.1 (readBd l e).2.2 ∧ Gw p w w' := by
  have H := Lib.hid h
  have LZS := Lib.hid bd_size
  have LZ := Lib.hid bd_zero
  have hpl := h.lt
  have hm1 := bd_num_le 1099511627776 (by decide) l e
  obtain ⟨a, l1, e1, hq1⟩ : ∃ x y z, numR 1099511627776 l e = (x, y, z) := ⟨_, _, _, rfl⟩
  rw [hq1] at hm1
  dsimp only at hm1
  have HQ1 := Lib.hid hq1
  have hm3 := bd_num_le 4 (by decide) l1 e1
  obtain ⟨n, l3, e3, hq3⟩ : ∃ x y z, numR 4 l1 e1 = (x, y, z) := ⟨_, _, _, rfl⟩
  rw [hq3] at hm3
  dsimp only at hm3
  obtain ⟨L, lk, ek, hk⟩ : ∃ x y z, rdShs n l3 e3 = (x, y, z) := ⟨_, _, _, rfl⟩
  have hfit := rdShs_fit l3 e3 n
  rw [hk] at hfit
  have hlen4 := rdShs_len l3 e3 n
  rw [hk] at hlen4
  dsimp only at hlen4
  have HRL := Lib.hid (fun w h => plsread p l1 e1 w h n l3 e3 hq3 (by omega))
  rw [hk] at HRL
  dsimp only at HRL
  obtain ⟨LL, hLL⟩ : ∃ x, lsS (L, lk, ek) = x := ⟨_, rfl⟩
  rw [hLL] at HRL
  have HFIT := Lib.hid (show ∀ x ∈ LL, x.fit from fun x hx => by rw [← hLL] at hx; unfold lsS at hx; split at hx; exact hfit x hx; cases hx)
  have hl4 : LL.length ≤ 1000 := by rw [← hLL]; unfold lsS; split <;> simp <;> omega
  have SIA := Lib.hid (show SI64 (a : Int) from ⟨by omega, by omega⟩)
  obtain ⟨ck, hck⟩ : ∃ x, Bd.ok ⟨(a : Int), LL⟩ = x := ⟨_, rfl⟩
  have HCK := Lib.hid (fun w' v (hv : BdV w' v ⟨(a : Int), LL⟩) => pbcheck v ⟨(a : Int), LL⟩ w' hv hl4)
  rw [hck] at HCK
  obtain ⟨Z, hZ2⟩ : ∃ Z, endBd ⟨(a : Int), L⟩ (lk, ek) = Z := ⟨_, rfl⟩
  rw [show readBd l e = Z by unfold readBd; simp only [hq1, hq3, hk]; exact hZ2]
  clear h hq1 hq3 hk hfit hl4 hlen4
  by_cases hek : ek = 0
  · subst hek
    have hLL2 : LL = L := by rw [← hLL]; unfold lsS; rw [if_pos rfl]
    subst hLL2
    unfold endBd at hZ2
    dsimp only at hZ2
    rw [if_pos rfl, hck] at hZ2
    clear hLL hck
    cases ck
    · rw [if_neg (by decide)] at hZ2
      subst hZ2
      have FL := Lib.hid (show failL lk 0 3 = [] by unfold failL; rw [if_neg (by decide)])
      have FE := Lib.hid (show failE 0 3 = 3 by unfold failE; rw [if_neg (by decide)])
      go_enter Try.func16, Try.ntmps16
      go_wp2_with (first
      | ((with_reducible refine alloc_row (o := ⟨some 2, _, _, _, _, _⟩) rfl _ rfl _ LZ.out ?_); intro w1 hr hb hz; have R1 := Lib.hid hr; have P1 := Lib.hid (H.out.mono hb); have G1 := Lib.hid (Gw.of_below (g := p) hb); have NP := Lib.hid (show p ≠ w.heap.size by omega); clear hr hb hz)
      | (go_at_call 44; (with_reducible refine (pnumR p 1099511627776 l e w1 P1.out).mono ?_); rw [HQ1.out]; rintro x w2 ⟨rfl, hP, hu⟩; have P2 := Lib.hid hP; have R2 := Lib.hid (R1.out.upd hu NP.out.symm); have G2 := Lib.hid (G1.out.trans (Gw.upd hu)); clear hP hu)
      | (go_at_call 45; (with_reducible refine (HRL.out w2 P2.out).mono ?_); rintro x w6 ⟨ad, m, cc, rfl, hlm, hN, hP, hu⟩; have LM := Lib.hid hlm; have N6 := Lib.hid (hN.base G2.out.size); have P6 := Lib.hid hP; have R6 := Lib.hid (R2.out.gw hu NP.out.symm); have G6 := Lib.hid (G2.out.trans hu); clear hlm hN hP hu)
      | ((with_reducible refine build_row (o := ⟨some 8, _, _, _, _, _⟩) rfl _ _ rfl (bdC (a : Int) ad m cc) ?_ ?_); (focus (go_simp; exact built_bd2 _ _ _ _)))
      | ((with_reducible refine alloc_row (o := ⟨some 3, _, _, _, _, _⟩) rfl _ rfl _ LZ.out ?_); intro w7 hr hb hz; have T7 := Lib.hid hr; have N7 := Lib.hid (N6.out.kept hb); have P7 := Lib.hid (P6.out.mono hb); have R7 := Lib.hid (R6.out.below hb R6.out.lt); have G7 := Lib.hid (G6.out.trans (Gw.of_below hb)); have PT := Lib.hid (Nat.ne_of_lt P6.out.lt); have RT := Lib.hid (Nat.ne_of_lt R6.out.lt); clear hr hb hz)
      | ((with_reducible refine store_row (o := ⟨none, _, _, _, _, _⟩) rfl _ (.tmp 3) _ rfl w6.heap.size (bdC (a : Int) ad m cc) ?_ ?_ 25 _ T7.out ?_ ?_ ?_ ?_); (focus go_simp); (focus (first | (go_simp; done) | (go_simp; rfl))); (focus (exact LZS.out)); (focus rfl); (focus (exact bd_one _ _ _ _)); intro w8 hr hu; have T8 := Lib.hid hr; have N8 := Lib.hid (N7.out.upd hu (N7.out.own_neS T7.out (by decide))); have P8 := Lib.hid (P7.out.putZ PT.out T7.out (nob_bd _ _ _ _) hu); have R8 := Lib.hid (R7.out.upd hu RT.out); have G8 := Lib.hid (G7.out.tail G6.out.size hu); have V8 := Lib.hid (show BdV w8 (.agg (bdC (a : Int) ad m cc).toArray) ⟨(a : Int), LL⟩ from ⟨ad, m, cc, rfl, SIA.out, fin_bd (N8.out.lso shOk) LM.out HFIT.out⟩); clear hr hu)
      | ((with_reducible refine load_row (o := ⟨some 9, _, _, _, _, _⟩) rfl _ _ rfl w6.heap.size ?_ _ (bdC (a : Int) ad m cc) _ T8.out Try.underlying25 rfl ?_ ?_); (focus go_simp); (focus (exact LZS.out)))
      | (go_at_call 10; (with_reducible refine (HCK.out w8 _ V8.out).mono ?_); rintro x w9 ⟨rfl, hb⟩; have T9 := Lib.hid (T8.out.below hb T8.out.lt); have N9 := Lib.hid (N8.out.kept hb); have P9 := Lib.hid (P8.out.mono hb); have R9 := Lib.hid (R8.out.below hb R8.out.lt); have G9 := Lib.hid (G8.out.trans (Gw.of_below hb)); clear hb)
      | (go_at_call 47; (with_reducible refine (pfail p lk 0 3 w9 P9.out).mono ?_); rintro x w10 ⟨rfl, hP, hu⟩; rw [FL.out, FE.out] at hP; have P10 := Lib.hid hP; have R10 := Lib.hid (R9.out.upd hu NP.out.symm); have G10 := Lib.hid (G9.out.trans (Gw.upd hu)); clear hP hu)
      | (go_at_call 21; (with_reducible refine (perr p [] 3 w10 P10.out).mono ?_); rintro x w' ⟨rfl, rfl⟩)
      | ((with_reducible refine build_row (o := ⟨some 17, _, _, _, _, _⟩) rfl _ _ rfl (bdC 0 none 0 0) ?_ ?_); (focus (go_simp; exact built_bdz)))
      | ((with_reducible refine store_row (o := ⟨none, _, _, _, _, _⟩) rfl _ (.tmp 2) _ rfl w.heap.size (bdC 0 none 0 0) ?_ ?_ 25 _ R10.out ?_ ?_ ?_ ?_); (focus go_simp); (focus (first | (go_simp; done) | (go_simp; rfl))); (focus (exact LZS.out)); (focus rfl); (focus (exact bd_one _ _ _ _)); intro w11 hr hu; have R11 := Lib.hid hr; have P11 := Lib.hid (P10.out.putZ NP.out R10.out (nob_bd _ _ _ _) hu); have G11 := Lib.hid (G10.out.tail (Nat.le_refl _) hu); clear hr hu))
      exact bodyPost_ret (results_cell_row rfl _ _ w.heap.size 25 _ _ _ (by go_simp) R11.out Try.underlying25 rfl LZS.out) rfl ⟨_, _, rfl, LsN.nil _ _, P11.out, G11.out⟩
    · rw [if_pos rfl] at hZ2
      subst hZ2
      go_enter Try.func16, Try.ntmps16
      go_wp2_with (first
      | ((with_reducible refine alloc_row (o := ⟨some 2, _, _, _, _, _⟩) rfl _ rfl _ LZ.out ?_); intro w1 hr hb hz; have R1 := Lib.hid hr; have P1 := Lib.hid (H.out.mono hb); have G1 := Lib.hid (Gw.of_below (g := p) hb); have NP := Lib.hid (show p ≠ w.heap.size by omega); clear hr hb hz)
      | (go_at_call 44; (with_reducible refine (pnumR p 1099511627776 l e w1 P1.out).mono ?_); rw [HQ1.out]; rintro x w2 ⟨rfl, hP, hu⟩; have P2 := Lib.hid hP; have R2 := Lib.hid (R1.out.upd hu NP.out.symm); have G2 := Lib.hid (G1.out.trans (Gw.upd hu)); clear hP hu)
      | (go_at_call 45; (with_reducible refine (HRL.out w2 P2.out).mono ?_); rintro x w6 ⟨ad, m, cc, rfl, hlm, hN, hP, hu⟩; have LM := Lib.hid hlm; have N6 := Lib.hid (hN.base G2.out.size); have P6 := Lib.hid hP; have R6 := Lib.hid (R2.out.gw hu NP.out.symm); have G6 := Lib.hid (G2.out.trans hu); clear hlm hN hP hu)
      | ((with_reducible refine build_row (o := ⟨some 8, _, _, _, _, _⟩) rfl _ _ rfl (bdC (a : Int) ad m cc) ?_ ?_); (focus (go_simp; exact built_bd2 _ _ _ _)))
      | ((with_reducible refine alloc_row (o := ⟨some 3, _, _, _, _, _⟩) rfl _ rfl _ LZ.out ?_); intro w7 hr hb hz; have T7 := Lib.hid hr; have N7 := Lib.hid (N6.out.kept hb); have P7 := Lib.hid (P6.out.mono hb); have R7 := Lib.hid (R6.out.below hb R6.out.lt); have G7 := Lib.hid (G6.out.trans (Gw.of_below hb)); have PT := Lib.hid (Nat.ne_of_lt P6.out.lt); have RT := Lib.hid (Nat.ne_of_lt R6.out.lt); clear hr hb hz)
      | ((with_reducible refine store_row (o := ⟨none, _, _, _, _, _⟩) rfl _ (.tmp 3) _ rfl w6.heap.size (bdC (a : Int) ad m cc) ?_ ?_ 25 _ T7.out ?_ ?_ ?_ ?_); (focus go_simp); (focus (first | (go_simp; done) | (go_simp; rfl))); (focus (exact LZS.out)); (focus rfl); (focus (exact bd_one _ _ _ _)); intro w8 hr hu; have T8 := Lib.hid hr; have N8 := Lib.hid (N7.out.upd hu (N7.out.own_neS T7.out (by decide))); have P8 := Lib.hid (P7.out.putZ PT.out T7.out (nob_bd _ _ _ _) hu); have R8 := Lib.hid (R7.out.upd hu RT.out); have G8 := Lib.hid (G7.out.tail G6.out.size hu); have V8 := Lib.hid (show BdV w8 (.agg (bdC (a : Int) ad m cc).toArray) ⟨(a : Int), LL⟩ from ⟨ad, m, cc, rfl, SIA.out, fin_bd (N8.out.lso shOk) LM.out HFIT.out⟩); clear hr hu)
      | ((with_reducible refine load_row (o := ⟨some 9, _, _, _, _, _⟩) rfl _ _ rfl w6.heap.size ?_ _ (bdC (a : Int) ad m cc) _ T8.out Try.underlying25 rfl ?_ ?_); (focus go_simp); (focus (exact LZS.out)))
      | (go_at_call 10; (with_reducible refine (HCK.out w8 _ V8.out).mono ?_); rintro x w9 ⟨rfl, hb⟩; have T9 := Lib.hid (T8.out.below hb T8.out.lt); have N9 := Lib.hid (N8.out.kept hb); have P9 := Lib.hid (P8.out.mono hb); have R9 := Lib.hid (R8.out.below hb R8.out.lt); have G9 := Lib.hid (G8.out.trans (Gw.of_below hb)); clear hb)
      | (go_at_call 21; (with_reducible refine (perr p lk 0 w9 P9.out).mono ?_); rintro x w' ⟨rfl, rfl⟩)
      | ((with_reducible refine load_row (o := ⟨some 18, _, _, _, _, _⟩) rfl _ _ rfl w6.heap.size ?_ _ (bdC (a : Int) ad m cc) _ T9.out Try.underlying25 rfl ?_ ?_); (focus go_simp); (focus (exact LZS.out)))
      | ((with_reducible refine store_row (o := ⟨none, _, _, _, _, _⟩) rfl _ (.tmp 2) _ rfl w.heap.size (bdC (a : Int) ad m cc) ?_ ?_ 25 _ R9.out ?_ ?_ ?_ ?_); (focus go_simp); (focus (first | (go_simp; done) | (go_simp; rfl))); (focus (exact LZS.out)); (focus rfl); (focus (exact bd_one _ _ _ _)); intro w11 hr hu; have R11 := Lib.hid hr; have P11 := Lib.hid (P9.out.putZ NP.out R9.out (nob_bd _ _ _ _) hu); have N11 := Lib.hid (N9.out.upd hu (N9.out.own_neS R9.out (by decide))); have G11 := Lib.hid (G9.out.tail (Nat.le_refl _) hu); clear hr hu))
      exact bodyPost_ret (results_cell_row rfl _ _ w.heap.size 25 _ _ _ (by go_simp) R11.out Try.underlying25 rfl LZS.out) rfl ⟨ad, cc, (by rw [LM.out]), (by rw [LM.out]; exact N11.out), P11.out, G11.out⟩
  · have hq : (ek == 0) = false := by simpa using hek
    have hq2 : (ek != 0) = true := by simpa using hek
    have hz2 : Z = (bdZ, lk, ek) := by rw [← hZ2]; unfold endBd; dsimp only; rw [if_neg hek]
    subst hz2
    have FL := Lib.hid (show failL lk ek 3 = lk by unfold failL; rw [if_pos (Or.inl hek)])
    have FE := Lib.hid (show failE ek 3 = ek by unfold failE; rw [if_pos (Or.inl hek)])
    clear hZ2 hLL hck
    cases ck
    · skip
      go_enter Try.func16, Try.ntmps16
      go_wp2_with (first
      | ((with_reducible refine alloc_row (o := ⟨some 2, _, _, _, _, _⟩) rfl _ rfl _ LZ.out ?_); intro w1 hr hb hz; have R1 := Lib.hid hr; have P1 := Lib.hid (H.out.mono hb); have G1 := Lib.hid (Gw.of_below (g := p) hb); have NP := Lib.hid (show p ≠ w.heap.size by omega); clear hr hb hz)
      | (go_at_call 44; (with_reducible refine (pnumR p 1099511627776 l e w1 P1.out).mono ?_); rw [HQ1.out]; rintro x w2 ⟨rfl, hP, hu⟩; have P2 := Lib.hid hP; have R2 := Lib.hid (R1.out.upd hu NP.out.symm); have G2 := Lib.hid (G1.out.trans (Gw.upd hu)); clear hP hu)
      | (go_at_call 45; (with_reducible refine (HRL.out w2 P2.out).mono ?_); rintro x w6 ⟨ad, m, cc, rfl, hlm, hN, hP, hu⟩; have LM := Lib.hid hlm; have N6 := Lib.hid (hN.base G2.out.size); have P6 := Lib.hid hP; have R6 := Lib.hid (R2.out.gw hu NP.out.symm); have G6 := Lib.hid (G2.out.trans hu); clear hlm hN hP hu)
      | ((with_reducible refine build_row (o := ⟨some 8, _, _, _, _, _⟩) rfl _ _ rfl (bdC (a : Int) ad m cc) ?_ ?_); (focus (go_simp; exact built_bd2 _ _ _ _)))
      | ((with_reducible refine alloc_row (o := ⟨some 3, _, _, _, _, _⟩) rfl _ rfl _ LZ.out ?_); intro w7 hr hb hz; have T7 := Lib.hid hr; have N7 := Lib.hid (N6.out.kept hb); have P7 := Lib.hid (P6.out.mono hb); have R7 := Lib.hid (R6.out.below hb R6.out.lt); have G7 := Lib.hid (G6.out.trans (Gw.of_below hb)); have PT := Lib.hid (Nat.ne_of_lt P6.out.lt); have RT := Lib.hid (Nat.ne_of_lt R6.out.lt); clear hr hb hz)
      | ((with_reducible refine store_row (o := ⟨none, _, _, _, _, _⟩) rfl _ (.tmp 3) _ rfl w6.heap.size (bdC (a : Int) ad m cc) ?_ ?_ 25 _ T7.out ?_ ?_ ?_ ?_); (focus go_simp); (focus (first | (go_simp; done) | (go_simp; rfl))); (focus (exact LZS.out)); (focus rfl); (focus (exact bd_one _ _ _ _)); intro w8 hr hu; have T8 := Lib.hid hr; have N8 := Lib.hid (N7.out.upd hu (N7.out.own_neS T7.out (by decide))); have P8 := Lib.hid (P7.out.putZ PT.out T7.out (nob_bd _ _ _ _) hu); have R8 := Lib.hid (R7.out.upd hu RT.out); have G8 := Lib.hid (G7.out.tail G6.out.size hu); have V8 := Lib.hid (show BdV w8 (.agg (bdC (a : Int) ad m cc).toArray) ⟨(a : Int), LL⟩ from ⟨ad, m, cc, rfl, SIA.out, fin_bd (N8.out.lso shOk) LM.out HFIT.out⟩); clear hr hu)
      | ((with_reducible refine load_row (o := ⟨some 9, _, _, _, _, _⟩) rfl _ _ rfl w6.heap.size ?_ _ (bdC (a : Int) ad m cc) _ T8.out Try.underlying25 rfl ?_ ?_); (focus go_simp); (focus (exact LZS.out)))
      | (go_at_call 10; (with_reducible refine (HCK.out w8 _ V8.out).mono ?_); rintro x w9 ⟨rfl, hb⟩; have T9 := Lib.hid (T8.out.below hb T8.out.lt); have N9 := Lib.hid (N8.out.kept hb); have P9 := Lib.hid (P8.out.mono hb); have R9 := Lib.hid (R8.out.below hb R8.out.lt); have G9 := Lib.hid (G8.out.trans (Gw.of_below hb)); clear hb)
      | (go_at_call 47; (with_reducible refine (pfail p lk ek 3 w9 P9.out).mono ?_); rintro x w10 ⟨rfl, hP, hu⟩; rw [FL.out, FE.out] at hP; have P10 := Lib.hid hP; have R10 := Lib.hid (R9.out.upd hu NP.out.symm); have G10 := Lib.hid (G9.out.trans (Gw.upd hu)); clear hP hu)
      | (go_at_call 21; (with_reducible refine (perr p lk ek w10 P10.out).mono ?_); rintro x w' ⟨rfl, rfl⟩)
      | ((with_reducible refine build_row (o := ⟨some 17, _, _, _, _, _⟩) rfl _ _ rfl (bdC 0 none 0 0) ?_ ?_); (focus (go_simp; exact built_bdz)))
      | ((with_reducible refine store_row (o := ⟨none, _, _, _, _, _⟩) rfl _ (.tmp 2) _ rfl w.heap.size (bdC 0 none 0 0) ?_ ?_ 25 _ R10.out ?_ ?_ ?_ ?_); (focus go_simp); (focus (first | (go_simp; done) | (go_simp; rfl))); (focus (exact LZS.out)); (focus rfl); (focus (exact bd_one _ _ _ _)); intro w11 hr hu; have R11 := Lib.hid hr; have P11 := Lib.hid (P10.out.putZ NP.out R10.out (nob_bd _ _ _ _) hu); have G11 := Lib.hid (G10.out.tail (Nat.le_refl _) hu); clear hr hu))
      exact bodyPost_ret (results_cell_row rfl _ _ w.heap.size 25 _ _ _ (by go_simp) R11.out Try.underlying25 rfl LZS.out) rfl ⟨_, _, rfl, LsN.nil _ _, P11.out, G11.out⟩
    · skip
      go_enter Try.func16, Try.ntmps16
      go_wp2_with (first
      | ((with_reducible refine alloc_row (o := ⟨some 2, _, _, _, _, _⟩) rfl _ rfl _ LZ.out ?_); intro w1 hr hb hz; have R1 := Lib.hid hr; have P1 := Lib.hid (H.out.mono hb); have G1 := Lib.hid (Gw.of_below (g := p) hb); have NP := Lib.hid (show p ≠ w.heap.size by omega); clear hr hb hz)
      | (go_at_call 44; (with_reducible refine (pnumR p 1099511627776 l e w1 P1.out).mono ?_); rw [HQ1.out]; rintro x w2 ⟨rfl, hP, hu⟩; have P2 := Lib.hid hP; have R2 := Lib.hid (R1.out.upd hu NP.out.symm); have G2 := Lib.hid (G1.out.trans (Gw.upd hu)); clear hP hu)
      | (go_at_call 45; (with_reducible refine (HRL.out w2 P2.out).mono ?_); rintro x w6 ⟨ad, m, cc, rfl, hlm, hN, hP, hu⟩; have LM := Lib.hid hlm; have N6 := Lib.hid (hN.base G2.out.size); have P6 := Lib.hid hP; have R6 := Lib.hid (R2.out.gw hu NP.out.symm); have G6 := Lib.hid (G2.out.trans hu); clear hlm hN hP hu)
      | ((with_reducible refine build_row (o := ⟨some 8, _, _, _, _, _⟩) rfl _ _ rfl (bdC (a : Int) ad m cc) ?_ ?_); (focus (go_simp; exact built_bd2 _ _ _ _)))
      | ((with_reducible refine alloc_row (o := ⟨some 3, _, _, _, _, _⟩) rfl _ rfl _ LZ.out ?_); intro w7 hr hb hz; have T7 := Lib.hid hr; have N7 := Lib.hid (N6.out.kept hb); have P7 := Lib.hid (P6.out.mono hb); have R7 := Lib.hid (R6.out.below hb R6.out.lt); have G7 := Lib.hid (G6.out.trans (Gw.of_below hb)); have PT := Lib.hid (Nat.ne_of_lt P6.out.lt); have RT := Lib.hid (Nat.ne_of_lt R6.out.lt); clear hr hb hz)
      | ((with_reducible refine store_row (o := ⟨none, _, _, _, _, _⟩) rfl _ (.tmp 3) _ rfl w6.heap.size (bdC (a : Int) ad m cc) ?_ ?_ 25 _ T7.out ?_ ?_ ?_ ?_); (focus go_simp); (focus (first | (go_simp; done) | (go_simp; rfl))); (focus (exact LZS.out)); (focus rfl); (focus (exact bd_one _ _ _ _)); intro w8 hr hu; have T8 := Lib.hid hr; have N8 := Lib.hid (N7.out.upd hu (N7.out.own_neS T7.out (by decide))); have P8 := Lib.hid (P7.out.putZ PT.out T7.out (nob_bd _ _ _ _) hu); have R8 := Lib.hid (R7.out.upd hu RT.out); have G8 := Lib.hid (G7.out.tail G6.out.size hu); have V8 := Lib.hid (show BdV w8 (.agg (bdC (a : Int) ad m cc).toArray) ⟨(a : Int), LL⟩ from ⟨ad, m, cc, rfl, SIA.out, fin_bd (N8.out.lso shOk) LM.out HFIT.out⟩); clear hr hu)
      | ((with_reducible refine load_row (o := ⟨some 9, _, _, _, _, _⟩) rfl _ _ rfl w6.heap.size ?_ _ (bdC (a : Int) ad m cc) _ T8.out Try.underlying25 rfl ?_ ?_); (focus go_simp); (focus (exact LZS.out)))
      | (go_at_call 10; (with_reducible refine (HCK.out w8 _ V8.out).mono ?_); rintro x w9 ⟨rfl, hb⟩; have T9 := Lib.hid (T8.out.below hb T8.out.lt); have N9 := Lib.hid (N8.out.kept hb); have P9 := Lib.hid (P8.out.mono hb); have R9 := Lib.hid (R8.out.below hb R8.out.lt); have G9 := Lib.hid (G8.out.trans (Gw.of_below hb)); clear hb)
      | (go_at_call 21; (with_reducible refine (perr p lk ek w9 P9.out).mono ?_); rintro x w' ⟨rfl, rfl⟩)
      | ((with_reducible refine build_row (o := ⟨some 17, _, _, _, _, _⟩) rfl _ _ rfl (bdC 0 none 0 0) ?_ ?_); (focus (go_simp; exact built_bdz)))
      | ((with_reducible refine store_row (o := ⟨none, _, _, _, _, _⟩) rfl _ (.tmp 2) _ rfl w.heap.size (bdC 0 none 0 0) ?_ ?_ 25 _ R9.out ?_ ?_ ?_ ?_); (focus go_simp); (focus (first | (go_simp; done) | (go_simp; rfl))); (focus (exact LZS.out)); (focus rfl); (focus (exact bd_one _ _ _ _)); intro w11 hr hu; have R11 := Lib.hid hr; have P11 := Lib.hid (P9.out.putZ NP.out R9.out (nob_bd _ _ _ _) hu); have G11 := Lib.hid (G9.out.tail (Nat.le_refl _) hu); clear hr hu))
      exact bodyPost_ret (results_cell_row rfl _ _ w.heap.size 25 _ _ _ (by go_simp) R11.out Try.underlying25 rfl LZS.out) rfl ⟨_, _, rfl, LsN.nil _ _, P11.out, G11.out⟩
end Go.Proofs.Ytkmdbdieloimiaa.W
