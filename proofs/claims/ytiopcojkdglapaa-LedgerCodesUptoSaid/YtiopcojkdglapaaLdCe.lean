/- LAYER 19 (ledger): readHold, lists.Read, Read of the program. -/
import Derived.Test.YtiopcojkdglapaaLdCc
import Derived.Test.YtiopcojkdglapaaLdQ
set_option linter.unusedSimpArgs false
set_option linter.unusedVariables false
namespace Go.Proofs.Ytiopcojkdglapaa.W
open Go Go.ChangeShapes Go.WideShapes Go.ChangeAt Go.RowKit
open Go.Proofs.Ytiopcojkdglapaa.P (enc dec)

theorem pbuiltH (a b c d e : Int) (s : ByteArray) : Try.prog.built 52 [(0, .int .i64 a), (1, .int .i64 b), (2, .int .i64 c), (3, .int .i64 d), (4, .int .i64 e), (5, .string s)] = some (Hd.cells ⟨a, b, c, d, e, s⟩).toArray := by kernel_rfl
theorem pbuiltL (a b c d : Int) (x : Option Addr) (m k : Nat) : Try.prog.built 50 [(0, .int .i64 a), (1, .int .i64 b), (2, .int .i64 c), (3, .int .i64 d), (4, .slice x m k)] = some (ldC a b c d x m k).toArray := by kernel_rfl
set_option maxRecDepth 100000 in
set_option maxHeartbeats 8000000 in
theorem preadhold (p : Nat) (l : List UInt8) (e : Int) (w : World) (h : RP w p l e) :
    Calls Try.prog 112 #[.pointer (some ⟨p, 0, none⟩)] w fun x w' => x = .returned (.agg (rdHd l e).1.cells.toArray) ∧ RP w' p (rdHd l e).2.1 (rdHd l e).2.2 ∧ Gw p w w' := by
  have H := Lib.hid h
  have HSZ := Lib.hid hd_size
  have MZ := Lib.hid hd_zero
  have hpl := h.lt
  obtain ⟨h1, l1, e1, hq1⟩ : ∃ x y z, numR 2147483648 l e = (x, y, z) := ⟨_, _, _, rfl⟩
  obtain ⟨h2, l2, e2, hq2⟩ : ∃ x y z, numR 7 l1 e1 = (x, y, z) := ⟨_, _, _, rfl⟩
  obtain ⟨h3, l3, e3, hq3⟩ : ∃ x y z, numR 1099511627776 l2 e2 = (x, y, z) := ⟨_, _, _, rfl⟩
  obtain ⟨h4, l4, e4, hq4⟩ : ∃ x y z, numR 1099511627776 l3 e3 = (x, y, z) := ⟨_, _, _, rfl⟩
  obtain ⟨h5, l5, e5, hq5⟩ : ∃ x y z, numR 1099511627776 l4 e4 = (x, y, z) := ⟨_, _, _, rfl⟩
  obtain ⟨tx, l6, e6, hq6⟩ : ∃ x y z, textR 16 l5 e5 = (x, y, z) := ⟨_, _, _, rfl⟩
  have hrd : rdHd l e = (⟨(h1 : Int), (h2 : Int), (h3 : Int), (h4 : Int), (h5 : Int), str tx⟩, l6, e6) := by unfold rdHd; simp only [hq1, hq2, hq3, hq4, hq5, hq6]
  rw [hrd]
  have HQ1 := Lib.hid hq1
  have HQ2 := Lib.hid hq2
  have HQ3 := Lib.hid hq3
  have HQ4 := Lib.hid hq4
  have HQ5 := Lib.hid hq5
  have HQ6 := Lib.hid hq6
  clear h hrd hq1 hq2 hq3 hq4 hq5 hq6
  go_enter Try.func112, Try.ntmps112
  go_wp2_with (first
    | ((with_reducible refine alloc_row (o := ⟨some 2, _, _, _, _, _⟩) rfl _ rfl _ MZ.out ?_); intro w1 hr hb hz; have R1 := Lib.hid hr; have P1 := Lib.hid (H.out.mono hb); have G1 := Lib.hid (Gw.of_below (g := p) hb); have NP := Lib.hid (show p ≠ w.heap.size by omega); clear hr hb hz)
    | (go_at_call 80; (with_reducible refine (pnumR p 2147483648 l e w1 P1.out).mono ?_); rw [HQ1.out]; rintro x w2 ⟨rfl, hP, hu⟩; have P2 := Lib.hid hP; have R2 := Lib.hid (R1.out.upd hu NP.out.symm); have G2 := Lib.hid (G1.out.trans (Gw.upd hu)); clear hP hu)
    | (go_at_call 80; (with_reducible refine (pnumR p 7 l1 e1 w2 P2.out).mono ?_); rw [HQ2.out]; rintro x w3 ⟨rfl, hP, hu⟩; have P3 := Lib.hid hP; have R3 := Lib.hid (R2.out.upd hu NP.out.symm); have G3 := Lib.hid (G2.out.trans (Gw.upd hu)); clear hP hu)
    | (go_at_call 80; (with_reducible refine (pnumR p 1099511627776 l2 e2 w3 P3.out).mono ?_); rw [HQ3.out]; rintro x w4 ⟨rfl, hP, hu⟩; have P4 := Lib.hid hP; have R4 := Lib.hid (R3.out.upd hu NP.out.symm); have G4 := Lib.hid (G3.out.trans (Gw.upd hu)); clear hP hu)
    | (go_at_call 80; (with_reducible refine (pnumR p 1099511627776 l3 e3 w4 P4.out).mono ?_); rw [HQ4.out]; rintro x w5 ⟨rfl, hP, hu⟩; have P5 := Lib.hid hP; have R5 := Lib.hid (R4.out.upd hu NP.out.symm); have G5 := Lib.hid (G4.out.trans (Gw.upd hu)); clear hP hu)
    | (go_at_call 80; (with_reducible refine (pnumR p 1099511627776 l4 e4 w5 P5.out).mono ?_); rw [HQ5.out]; rintro x w6 ⟨rfl, hP, hu⟩; have P6 := Lib.hid hP; have R6 := Lib.hid (R5.out.upd hu NP.out.symm); have G6 := Lib.hid (G5.out.trans (Gw.upd hu)); clear hP hu)
    | (go_at_call 81; (with_reducible refine (ptextR p 16 l5 e5 w6 P6.out).mono ?_); rw [HQ6.out]; rintro x w7 ⟨rfl, hP, hu⟩; have P7 := Lib.hid hP; have R7 := Lib.hid (R6.out.upd hu NP.out.symm); have G7 := Lib.hid (G6.out.trans (Gw.upd hu)); clear hP hu)
    | ((with_reducible refine build_row (o := ⟨some 15, _, _, _, _, _⟩) rfl _ _ rfl (Hd.cells ⟨(h1 : Int), (h2 : Int), (h3 : Int), (h4 : Int), (h5 : Int), str tx⟩) ?_ ?_); (focus (go_simp; exact pbuiltH _ _ _ _ _ _)))
    | ((with_reducible refine store_row (o := ⟨none, _, _, _, _, _⟩) rfl _ (.tmp 2) _ rfl w.heap.size (Hd.cells ⟨(h1 : Int), (h2 : Int), (h3 : Int), (h4 : Int), (h5 : Int), str tx⟩) ?_ ?_ 52 _ R7.out ?_ ?_ ?_ ?_); (focus go_simp); (focus (first | (go_simp; done) | (go_simp; rfl))); (focus (exact HSZ.out)); (focus rfl); (focus (exact hd_one _)); intro w8 hr hu; have R8 := Lib.hid hr; have P8 := Lib.hid (P7.out.put' NP.out R7.out (nob_hd hdZ) hu); have G8 := Lib.hid (G7.out.tail (Nat.le_refl _) hu); clear hr hu))
  exact bodyPost_ret (results_cell_row rfl _ _ w.heap.size 52 _ _ _ (by go_simp) R8.out Try.underlying52 rfl HSZ.out) rfl ⟨rfl, P8.out, G8.out⟩
/-- what lists.Read gives: none behind an error -/
def lsL (q : List Hd × List UInt8 × Int) : List Hd := if q.2.2 = 0 then q.1 else []
set_option maxRecDepth 100000 in
set_option maxHeartbeats 16000000 in
theorem plsread (p : Nat) (l : List UInt8) (e : Int) (w : World) (h : RP w p l e) (n : Nat) (l1 : List UInt8) (e1 : Int) (hq : numR 8 l e = (n, l1, e1)) (hn : n ≤ 8) :
    Calls Try.prog 111 #[.pointer (some ⟨p, 0, none⟩), .int .i64 8, .func (.func 112) #[] #[]] w fun x w' => ∃ a m c, x = .returned (.slice a m c) ∧ (lsL (rdHds n l1 e1)).length = m ∧ LsN hdE w' w.heap.size (.slice a m c) (lsL (rdHds n l1 e1)) ∧ RP w' p (rdHds n l1 e1).2.1 (rdHds n l1 e1).2.2 ∧ Gw p w w' := by
  have H := Lib.hid h
  have HQ := Lib.hid hq
  have HSZ := Lib.hid hd_size
  obtain ⟨Z, hZ⟩ : ∃ Z, rdHds n l1 e1 = Z := ⟨_, rfl⟩
  rw [hZ]
  have HZ := Lib.hid hZ
  clear h hq hZ
  go_enter Try.func111, Try.ntmps111
  go_wp2_with (first
    | (go_at_call 80; (with_reducible refine (pnumR p 8 l e w H.out).mono ?_); rw [HQ.out]; rintro x w1 ⟨rfl, hP, hu⟩; have P1 := Lib.hid hP; have G1 := Lib.hid (Gw.upd hu); clear hP hu))
  go_loopw [7, 11] (fun v i wr => ∃ (k : Nat) (Lk : List Hd) (lk : List UInt8) (ek : Int) (ad : Option Addr) (m cc : Nat), v = .slice ad m cc ∧ i = .int .i64 (k : Int) ∧ k ≤ n ∧ Lk.length = m ∧ Hid (rdHds k l1 e1 = (Lk, lk, ek)) ∧ Hid (LsN hdE wr w.heap.size (.slice ad m cc) Lk) ∧ Hid (RP wr p lk ek) ∧ Hid (Gw p w wr)) (fun _ i _ => n - (intOf i).toNat)
  case atStart => exact ⟨0, [], l1, e1, none, 0, 0, rfl, rfl, Nat.zero_le _, rfl, Lib.hid rfl, Lib.hid (LsN.nil _ _), P1, G1⟩
  case round =>
    obtain ⟨k, Lk, lk, ek, ad, m, cc, rfl, rfl, hk, hlm, HK, N, P, G⟩ := hrel
    have HLM := Lib.hid hlm
    have hmk : m ≤ 8 := by have := rdHds_len l1 e1 k; rw [HK.out] at this; dsimp only at this; omega
    clear hlm
    by_cases hlt : k < n
    · obtain ⟨s, lx, ex, hrd⟩ : ∃ x y z, rdHd lk ek = (x, y, z) := ⟨_, _, _, rfl⟩
      have hft := rdHd_fit lk ek
      rw [hrd] at hft
      have HRH := Lib.hid (preadhold p lk ek wr P.out)
      rw [hrd] at HRH
      have FT := Lib.hid hft
      have HK2 := Lib.hid (show rdHds (k + 1) l1 e1 = (Lk ++ [s], lx, ex) by simp only [rdHds]; rw [HK.out]; dsimp only; rw [hrd])
      have g2 : (k : Int) < (n : Int) := by omega
      clear hrd hft
      go_wp2_with (first
        | (go_at_call 112; (with_reducible refine HRH.out.mono ?_); rintro x w3 ⟨rfl, hP, hu⟩; have P3 := Lib.hid hP; have N3 := Lib.hid (LsN.rp hdNb N.out P.out hu); have G3 := Lib.hid (G.out.trans hu); clear hP hu)
        | ((with_reducible refine build_ls hdOk hd_fill (o := ⟨some 17, _, _, _, _, _⟩) rfl _ rfl s ?_ ?_ (by decide) ?_); (focus (first | (go_simp; done) | (go_simp; rfl))); (focus (exact FT.out)); intro w4 hl hb hz; have Q4 := Lib.hid hl; have P4 := Lib.hid (P3.out.mono hb); have N4 := Lib.hid (N3.out.kept hb); have G4 := Lib.hid (G3.out.trans (Gw.of_below hb)); clear hl hb hz)
        | (at_builtin; (with_reducible refine append_lsn hdOk hdNb rfl _ _ rfl w.heap.size (.slice ad m cc) Lk ?_ N4.out _ 0 1 1 [s] ?_ Q4.out (by decide) ?_ G4.out.size ?_); (focus (first | (go_simp; done) | (go_simp; rfl))); (focus (first | (go_simp; done) | (go_simp; rfl))); (focus (rw [HLM.out]; omega)); intro v5 w5 hN hb hg; have P5 := Lib.hid (RP.ownL hdNb P4.out N4.out hg); have G5 := Lib.hid (gw_below19 G4.out hb); obtain ⟨m5, hm5⟩ : ∃ q, (Lk ++ [s]).length = q := ⟨_, rfl⟩; obtain ⟨a5, c5, hv5, -, -⟩ := (hN.lso hdOk).ls hdOk (fun x hx => by (have := rdHds_fit l1 e1 (k + 1)); rw [HK2.out] at this; exact this x hx); rw [hm5] at hv5; subst hv5; have N5 := Lib.hid hN; have M5 := Lib.hid hm5; clear hN hb hg hm5))
      go_roundw
      case rel => exact ⟨k + 1, _, lx, ex, a5, m5, c5, rfl, vint (by omega), by omega, M5.out, HK2, N5, P5, G5⟩
      case measure => simp [intOf]; omega
    · obtain rfl : n = k := by omega
      have hZ := HZ.out
      rw [HK.out] at hZ
      by_cases hek : ek = 0
      · subst hek
        have HLS := Lib.hid (show lsL Z = Lk by rw [← hZ]; unfold lsL; rw [if_pos rfl])
        have HZ2 := Lib.hid (show Z.2 = (lk, 0) by rw [← hZ])
        clear hZ
        go_wp2_with (first
          | (go_at_call 34; (with_reducible refine (perr p lk 0 wr P.out).mono ?_); rintro x w' ⟨rfl, rfl⟩))
        go_ret
        exact ⟨ad, m, cc, rfl, by rw [HLS.out]; exact HLM.out, by rw [HLS.out]; exact N.out, by rw [HZ2.out]; exact P.out, G.out⟩
      · have hq : (ek == 0) = false := by simpa using hek
        have hq2 : (ek != 0) = true := by simpa using hek
        have HLS := Lib.hid (show lsL Z = [] by rw [← hZ]; unfold lsL; dsimp only; rw [if_neg hek])
        have HZ2 := Lib.hid (show Z.2 = (lk, ek) by rw [← hZ])
        clear hZ
        go_wp2_with (first
          | (go_at_call 34; (with_reducible refine (perr p lk ek wr P.out).mono ?_); rintro x w' ⟨rfl, rfl⟩))
        go_ret
        exact ⟨none, 0, 0, rfl, by rw [HLS.out]; rfl, by rw [HLS.out]; exact LsN.nil _ _, by rw [HZ2.out]; exact P.out, G.out⟩
set_option maxRecDepth 100000 in
set_option maxHeartbeats 16000000 in
theorem pread (p : Nat) (l : List UInt8) (e : Int) (w : World) (h : RP w p l e) :
    Calls Try.prog 52 #[.pointer (some ⟨p, 0, none⟩)] w fun x w' => ∃ a c, x = .returned (.agg (ldC (readLd l e).1.q (readLd l e).1.u (readLd l e).1.h (readLd l e).1.n a (readLd l e).1.L.length c).toArray) ∧ LsN hdE w' w.heap.size (.slice a (readLd l e).1.L.length c) (readLd l e).1.L ∧ RP w' p (readLd l e).2.1 (readLd l e).2.2 ∧ Gw p w w' := by
  have H := Lib.hid h
  have LZS := Lib.hid ld_size
  have LZ := Lib.hid ld_zero
  have hpl := h.lt
  have hm1 := ld_num_le 1099511627776 (by decide) l e
  obtain ⟨a, l1, e1, hq1⟩ : ∃ x y z, numR 1099511627776 l e = (x, y, z) := ⟨_, _, _, rfl⟩
  rw [hq1] at hm1
  dsimp only at hm1
  have HQ1 := Lib.hid hq1
  have hm2 := ld_num_le 1099511627776 (by decide) l1 e1
  obtain ⟨b, l2, e2, hq2⟩ : ∃ x y z, numR 1099511627776 l1 e1 = (x, y, z) := ⟨_, _, _, rfl⟩
  rw [hq2] at hm2
  dsimp only at hm2
  have HQ2 := Lib.hid hq2
  have hm3 := ld_num_le 1099511627776 (by decide) l2 e2
  obtain ⟨c, l3, e3, hq3⟩ : ∃ x y z, numR 1099511627776 l2 e2 = (x, y, z) := ⟨_, _, _, rfl⟩
  rw [hq3] at hm3
  dsimp only at hm3
  have HQ3 := Lib.hid hq3
  have hm4 := ld_num_le 2147483648 (by decide) l3 e3
  obtain ⟨d, l4, e4, hq4⟩ : ∃ x y z, numR 2147483648 l3 e3 = (x, y, z) := ⟨_, _, _, rfl⟩
  rw [hq4] at hm4
  dsimp only at hm4
  have HQ4 := Lib.hid hq4
  have hm5 := ld_num_le 8 (by decide) l4 e4
  obtain ⟨n, l5, e5, hq5⟩ : ∃ x y z, numR 8 l4 e4 = (x, y, z) := ⟨_, _, _, rfl⟩
  rw [hq5] at hm5
  dsimp only at hm5
  have HQ5 := Lib.hid hq5
  obtain ⟨L, lk, ek, hk⟩ : ∃ x y z, rdHds n l5 e5 = (x, y, z) := ⟨_, _, _, rfl⟩
  have hfit := rdHds_fit l5 e5 n
  rw [hk] at hfit
  have HRL := Lib.hid (fun w h => plsread p l4 e4 w h n l5 e5 hq5 (by omega))
  rw [hk] at HRL
  dsimp only at HRL
  obtain ⟨LL, hLL⟩ : ∃ x, lsL (L, lk, ek) = x := ⟨_, rfl⟩
  rw [hLL] at HRL
  have HFIT := Lib.hid (show ∀ x ∈ LL, x.fit from fun x hx => by
    rw [← hLL] at hx; unfold lsL at hx
    split at hx
    · exact hfit x hx
    · cases hx)
  obtain ⟨Z, hZ⟩ : ∃ Z, readLd l e = Z := ⟨_, rfl⟩
  rw [hZ]
  have hZ2 : endLd ⟨(a : Int), (b : Int), (c : Int), (d : Int), L⟩ (lk, ek) = Z := by rw [← hZ]; unfold readLd; simp only [hq1, hq2, hq3, hq4, hq5, hk]
  obtain ⟨ck, hck⟩ : ∃ x, Ld.ok ⟨(a : Int), (b : Int), (c : Int), (d : Int), LL⟩ = x := ⟨_, rfl⟩
  have HCK := Lib.hid (fun w v (h : LdV w v ⟨(a : Int), (b : Int), (c : Int), (d : Int), LL⟩) => pcheck v ⟨(a : Int), (b : Int), (c : Int), (d : Int), LL⟩ w ⟨h, ⟨by dsimp only; omega, by dsimp only; omega⟩, ⟨by dsimp only; omega, by dsimp only; omega⟩, ⟨by dsimp only; omega, by dsimp only; omega⟩, ⟨by dsimp only; omega, by dsimp only; omega⟩⟩)
  rw [hck] at HCK
  clear h hZ hq1 hq2 hq3 hq4 hq5 hk hfit hm1 hm2 hm3 hm4 hm5
  by_cases hek : ek = 0
  · subst hek
    have hLL2 : L = LL := by rw [← hLL]; unfold lsL; dsimp only; rw [if_pos rfl]
    subst hLL2
    unfold endLd at hZ2
    dsimp only at hZ2
    rw [if_pos rfl, hck] at hZ2
    clear hLL hck
    cases ck
    · rw [if_neg (by decide)] at hZ2
      subst hZ2
      go_enter Try.func52, Try.ntmps52
      go_wp2_with (first
        | ((with_reducible refine alloc_row (o := ⟨some 2, _, _, _, _, _⟩) rfl _ rfl _ LZ.out ?_); intro w1 hr hb hz; have R1 := Lib.hid hr; have P1 := Lib.hid (H.out.mono hb); have G1 := Lib.hid (Gw.of_below (g := p) hb); have NP := Lib.hid (show p ≠ w.heap.size by omega); clear hr hb hz)
        | (go_at_call 80; (with_reducible refine (pnumR p 1099511627776 l e w1 P1.out).mono ?_); rw [HQ1.out]; rintro x w2 ⟨rfl, hP, hu⟩; have P2 := Lib.hid hP; have R2 := Lib.hid (R1.out.upd hu NP.out.symm); have G2 := Lib.hid (G1.out.trans (Gw.upd hu)); clear hP hu)
        | (go_at_call 80; (with_reducible refine (pnumR p 1099511627776 l1 e1 w2 P2.out).mono ?_); rw [HQ2.out]; rintro x w3 ⟨rfl, hP, hu⟩; have P3 := Lib.hid hP; have R3 := Lib.hid (R2.out.upd hu NP.out.symm); have G3 := Lib.hid (G2.out.trans (Gw.upd hu)); clear hP hu)
        | (go_at_call 80; (with_reducible refine (pnumR p 1099511627776 l2 e2 w3 P3.out).mono ?_); rw [HQ3.out]; rintro x w4 ⟨rfl, hP, hu⟩; have P4 := Lib.hid hP; have R4 := Lib.hid (R3.out.upd hu NP.out.symm); have G4 := Lib.hid (G3.out.trans (Gw.upd hu)); clear hP hu)
        | (go_at_call 80; (with_reducible refine (pnumR p 2147483648 l3 e3 w4 P4.out).mono ?_); rw [HQ4.out]; rintro x w5 ⟨rfl, hP, hu⟩; have P5 := Lib.hid hP; have R5 := Lib.hid (R4.out.upd hu NP.out.symm); have G5 := Lib.hid (G4.out.trans (Gw.upd hu)); clear hP hu)
        | (go_at_call 111; (with_reducible refine (HRL.out w5 P5.out).mono ?_); rintro x w6 ⟨ad, m, cc, rfl, hlm, hN, hP, hu⟩; have LM := Lib.hid hlm; have N6 := Lib.hid (hN.base G5.out.size); have P6 := Lib.hid hP; have R6 := Lib.hid (R5.out.gw hu NP.out.symm); have G6 := Lib.hid (G5.out.trans hu); clear hlm hN hP hu)
        | ((with_reducible refine build_row (o := ⟨some 14, _, _, _, _, _⟩) rfl _ _ rfl (ldC (a : Int) (b : Int) (c : Int) (d : Int) ad m cc) ?_ ?_); (focus (go_simp; exact pbuiltL _ _ _ _ _ _ _)))
        | ((with_reducible refine alloc_row (o := ⟨some 3, _, _, _, _, _⟩) rfl _ rfl _ LZ.out ?_); intro w7 hr hb hz; have T7 := Lib.hid hr; have N7 := Lib.hid (N6.out.kept hb); have P7 := Lib.hid (P6.out.mono hb); have R7 := Lib.hid (R6.out.below hb R6.out.lt); have G7 := Lib.hid (G6.out.trans (Gw.of_below hb)); have PT := Lib.hid (Nat.ne_of_lt P6.out.lt); have RT := Lib.hid (Nat.ne_of_lt R6.out.lt); clear hr hb hz)
        | ((with_reducible refine store_row (o := ⟨none, _, _, _, _, _⟩) rfl _ (.tmp 3) _ rfl w6.heap.size (ldC (a : Int) (b : Int) (c : Int) (d : Int) ad m cc) ?_ ?_ 50 _ T7.out ?_ ?_ ?_ ?_); (focus go_simp); (focus (first | (go_simp; done) | (go_simp; rfl))); (focus (exact LZS.out)); (focus rfl); (focus (exact ld_one _ _ _ _ _ _ _)); intro w8 hr hu; have T8 := Lib.hid hr; have N8 := Lib.hid (N7.out.upd hu (N7.out.own_ne T7.out (by decide))); have P8 := Lib.hid (P7.out.put' PT.out T7.out (nob_ld _ _ _ _ _ _ _) hu); have R8 := Lib.hid (R7.out.upd hu RT.out); have G8 := Lib.hid (G7.out.tail G6.out.size hu); have V8 := Lib.hid (show LdV w8 (.agg (ldC (a : Int) (b : Int) (c : Int) (d : Int) ad m cc).toArray) ⟨(a : Int), (b : Int), (c : Int), (d : Int), L⟩ from ⟨ad, m, cc, rfl, hd_out (N8.out.lso hdOk) LM.out HFIT.out⟩); clear hr hu)
        | ((with_reducible refine load_row (o := ⟨some 15, _, _, _, _, _⟩) rfl _ _ rfl w6.heap.size ?_ _ (ldC (a : Int) (b : Int) (c : Int) (d : Int) ad m cc) _ T8.out Try.underlying50 rfl ?_ ?_); (focus go_simp); (focus (exact LZS.out)))
        | (go_at_call 41; (with_reducible refine (HCK.out w8 _ V8.out).mono ?_); rintro x w9 ⟨rfl, hb⟩; have T9 := Lib.hid (T8.out.below hb T8.out.lt); have N9 := Lib.hid (N8.out.kept hb); have P9 := Lib.hid (P8.out.mono hb); have R9 := Lib.hid (R8.out.below hb R8.out.lt); have G9 := Lib.hid (G8.out.trans (Gw.of_below hb)); clear hb)
        | (go_at_call 82; (with_reducible refine (pfail p lk 0 3 w9 P9.out).mono ?_); rintro x w10 ⟨rfl, hP, hu⟩; have hP : RP w10 p [] 3 := hP; have P10 := Lib.hid hP; have R10 := Lib.hid (R9.out.upd hu NP.out.symm); have G10 := Lib.hid (G9.out.trans (Gw.upd hu)); clear hP hu)
        | (go_at_call 34; (with_reducible refine (perr p [] 3 w10 P10.out).mono ?_); rintro x w' ⟨rfl, rfl⟩)
        | ((with_reducible refine build_row (o := ⟨some 23, _, _, _, _, _⟩) rfl _ _ rfl (ldC 0 0 0 0 none 0 0) ?_ ?_); (focus (go_simp; exact ybuilt0)))
        | ((with_reducible refine store_row (o := ⟨none, _, _, _, _, _⟩) rfl _ (.tmp 2) _ rfl w.heap.size (ldC 0 0 0 0 none 0 0) ?_ ?_ 50 _ R10.out ?_ ?_ ?_ ?_); (focus go_simp); (focus (first | (go_simp; done) | (go_simp; rfl))); (focus (exact LZS.out)); (focus rfl); (focus (exact ld_one _ _ _ _ _ _ _)); intro w11 hr hu; have R11 := Lib.hid hr; have P11 := Lib.hid (P10.out.put' NP.out R10.out (nob_ld _ _ _ _ _ _ _) hu); have G11 := Lib.hid (G10.out.tail (Nat.le_refl _) hu); clear hr hu))
      exact bodyPost_ret (results_cell_row rfl _ _ w.heap.size 50 _ _ _ (by go_simp) R11.out Try.underlying50 rfl LZS.out) rfl ⟨_, _, rfl, LsN.nil _ _, P11.out, G11.out⟩
    · rw [if_pos rfl] at hZ2
      subst hZ2
      go_enter Try.func52, Try.ntmps52
      go_wp2_with (first
        | ((with_reducible refine alloc_row (o := ⟨some 2, _, _, _, _, _⟩) rfl _ rfl _ LZ.out ?_); intro w1 hr hb hz; have R1 := Lib.hid hr; have P1 := Lib.hid (H.out.mono hb); have G1 := Lib.hid (Gw.of_below (g := p) hb); have NP := Lib.hid (show p ≠ w.heap.size by omega); clear hr hb hz)
        | (go_at_call 80; (with_reducible refine (pnumR p 1099511627776 l e w1 P1.out).mono ?_); rw [HQ1.out]; rintro x w2 ⟨rfl, hP, hu⟩; have P2 := Lib.hid hP; have R2 := Lib.hid (R1.out.upd hu NP.out.symm); have G2 := Lib.hid (G1.out.trans (Gw.upd hu)); clear hP hu)
        | (go_at_call 80; (with_reducible refine (pnumR p 1099511627776 l1 e1 w2 P2.out).mono ?_); rw [HQ2.out]; rintro x w3 ⟨rfl, hP, hu⟩; have P3 := Lib.hid hP; have R3 := Lib.hid (R2.out.upd hu NP.out.symm); have G3 := Lib.hid (G2.out.trans (Gw.upd hu)); clear hP hu)
        | (go_at_call 80; (with_reducible refine (pnumR p 1099511627776 l2 e2 w3 P3.out).mono ?_); rw [HQ3.out]; rintro x w4 ⟨rfl, hP, hu⟩; have P4 := Lib.hid hP; have R4 := Lib.hid (R3.out.upd hu NP.out.symm); have G4 := Lib.hid (G3.out.trans (Gw.upd hu)); clear hP hu)
        | (go_at_call 80; (with_reducible refine (pnumR p 2147483648 l3 e3 w4 P4.out).mono ?_); rw [HQ4.out]; rintro x w5 ⟨rfl, hP, hu⟩; have P5 := Lib.hid hP; have R5 := Lib.hid (R4.out.upd hu NP.out.symm); have G5 := Lib.hid (G4.out.trans (Gw.upd hu)); clear hP hu)
        | (go_at_call 111; (with_reducible refine (HRL.out w5 P5.out).mono ?_); rintro x w6 ⟨ad, m, cc, rfl, hlm, hN, hP, hu⟩; have LM := Lib.hid hlm; have N6 := Lib.hid (hN.base G5.out.size); have P6 := Lib.hid hP; have R6 := Lib.hid (R5.out.gw hu NP.out.symm); have G6 := Lib.hid (G5.out.trans hu); clear hlm hN hP hu)
        | ((with_reducible refine build_row (o := ⟨some 14, _, _, _, _, _⟩) rfl _ _ rfl (ldC (a : Int) (b : Int) (c : Int) (d : Int) ad m cc) ?_ ?_); (focus (go_simp; exact pbuiltL _ _ _ _ _ _ _)))
        | ((with_reducible refine alloc_row (o := ⟨some 3, _, _, _, _, _⟩) rfl _ rfl _ LZ.out ?_); intro w7 hr hb hz; have T7 := Lib.hid hr; have N7 := Lib.hid (N6.out.kept hb); have P7 := Lib.hid (P6.out.mono hb); have R7 := Lib.hid (R6.out.below hb R6.out.lt); have G7 := Lib.hid (G6.out.trans (Gw.of_below hb)); have PT := Lib.hid (Nat.ne_of_lt P6.out.lt); have RT := Lib.hid (Nat.ne_of_lt R6.out.lt); clear hr hb hz)
        | ((with_reducible refine store_row (o := ⟨none, _, _, _, _, _⟩) rfl _ (.tmp 3) _ rfl w6.heap.size (ldC (a : Int) (b : Int) (c : Int) (d : Int) ad m cc) ?_ ?_ 50 _ T7.out ?_ ?_ ?_ ?_); (focus go_simp); (focus (first | (go_simp; done) | (go_simp; rfl))); (focus (exact LZS.out)); (focus rfl); (focus (exact ld_one _ _ _ _ _ _ _)); intro w8 hr hu; have T8 := Lib.hid hr; have N8 := Lib.hid (N7.out.upd hu (N7.out.own_ne T7.out (by decide))); have P8 := Lib.hid (P7.out.put' PT.out T7.out (nob_ld _ _ _ _ _ _ _) hu); have R8 := Lib.hid (R7.out.upd hu RT.out); have G8 := Lib.hid (G7.out.tail G6.out.size hu); have V8 := Lib.hid (show LdV w8 (.agg (ldC (a : Int) (b : Int) (c : Int) (d : Int) ad m cc).toArray) ⟨(a : Int), (b : Int), (c : Int), (d : Int), L⟩ from ⟨ad, m, cc, rfl, hd_out (N8.out.lso hdOk) LM.out HFIT.out⟩); clear hr hu)
        | ((with_reducible refine load_row (o := ⟨some 15, _, _, _, _, _⟩) rfl _ _ rfl w6.heap.size ?_ _ (ldC (a : Int) (b : Int) (c : Int) (d : Int) ad m cc) _ T8.out Try.underlying50 rfl ?_ ?_); (focus go_simp); (focus (exact LZS.out)))
        | (go_at_call 41; (with_reducible refine (HCK.out w8 _ V8.out).mono ?_); rintro x w9 ⟨rfl, hb⟩; have T9 := Lib.hid (T8.out.below hb T8.out.lt); have N9 := Lib.hid (N8.out.kept hb); have P9 := Lib.hid (P8.out.mono hb); have R9 := Lib.hid (R8.out.below hb R8.out.lt); have G9 := Lib.hid (G8.out.trans (Gw.of_below hb)); clear hb)
        | (go_at_call 34; (with_reducible refine (perr p lk 0 w9 P9.out).mono ?_); rintro x w' ⟨rfl, rfl⟩)
        | ((with_reducible refine load_row (o := ⟨some 24, _, _, _, _, _⟩) rfl _ _ rfl w6.heap.size ?_ _ (ldC (a : Int) (b : Int) (c : Int) (d : Int) ad m cc) _ T9.out Try.underlying50 rfl ?_ ?_); (focus go_simp); (focus (exact LZS.out)))
        | ((with_reducible refine store_row (o := ⟨none, _, _, _, _, _⟩) rfl _ (.tmp 2) _ rfl w.heap.size (ldC (a : Int) (b : Int) (c : Int) (d : Int) ad m cc) ?_ ?_ 50 _ R9.out ?_ ?_ ?_ ?_); (focus go_simp); (focus (first | (go_simp; done) | (go_simp; rfl))); (focus (exact LZS.out)); (focus rfl); (focus (exact ld_one _ _ _ _ _ _ _)); intro w11 hr hu; have R11 := Lib.hid hr; have P11 := Lib.hid (P9.out.put' NP.out R9.out (nob_ld _ _ _ _ _ _ _) hu); have N11 := Lib.hid (N9.out.upd hu (N9.out.own_ne R9.out (by decide))); have G11 := Lib.hid (G9.out.tail (Nat.le_refl _) hu); clear hr hu))
      exact bodyPost_ret (results_cell_row rfl _ _ w.heap.size 50 _ _ _ (by go_simp) R11.out Try.underlying50 rfl LZS.out) rfl ⟨ad, cc, (by rw [LM.out]), (by rw [LM.out]; exact N11.out), P11.out, G11.out⟩
  · have hq : (ek == 0) = false := by simpa using hek
    have hq2 : (ek != 0) = true := by simpa using hek
    have hz2 : Z = (ldZ, lk, ek) := by rw [← hZ2]; unfold endLd; dsimp only; rw [if_neg hek]
    subst hz2
    have FL := Lib.hid (show failL lk ek 3 = lk by unfold failL; rw [if_pos (Or.inl hek)])
    have FE := Lib.hid (show failE ek 3 = ek by unfold failE; rw [if_pos (Or.inl hek)])
    clear hZ2 hLL hck
    cases ck
    · go_enter Try.func52, Try.ntmps52
      go_wp2_with (first
        | ((with_reducible refine alloc_row (o := ⟨some 2, _, _, _, _, _⟩) rfl _ rfl _ LZ.out ?_); intro w1 hr hb hz; have R1 := Lib.hid hr; have P1 := Lib.hid (H.out.mono hb); have G1 := Lib.hid (Gw.of_below (g := p) hb); have NP := Lib.hid (show p ≠ w.heap.size by omega); clear hr hb hz)
        | (go_at_call 80; (with_reducible refine (pnumR p 1099511627776 l e w1 P1.out).mono ?_); rw [HQ1.out]; rintro x w2 ⟨rfl, hP, hu⟩; have P2 := Lib.hid hP; have R2 := Lib.hid (R1.out.upd hu NP.out.symm); have G2 := Lib.hid (G1.out.trans (Gw.upd hu)); clear hP hu)
        | (go_at_call 80; (with_reducible refine (pnumR p 1099511627776 l1 e1 w2 P2.out).mono ?_); rw [HQ2.out]; rintro x w3 ⟨rfl, hP, hu⟩; have P3 := Lib.hid hP; have R3 := Lib.hid (R2.out.upd hu NP.out.symm); have G3 := Lib.hid (G2.out.trans (Gw.upd hu)); clear hP hu)
        | (go_at_call 80; (with_reducible refine (pnumR p 1099511627776 l2 e2 w3 P3.out).mono ?_); rw [HQ3.out]; rintro x w4 ⟨rfl, hP, hu⟩; have P4 := Lib.hid hP; have R4 := Lib.hid (R3.out.upd hu NP.out.symm); have G4 := Lib.hid (G3.out.trans (Gw.upd hu)); clear hP hu)
        | (go_at_call 80; (with_reducible refine (pnumR p 2147483648 l3 e3 w4 P4.out).mono ?_); rw [HQ4.out]; rintro x w5 ⟨rfl, hP, hu⟩; have P5 := Lib.hid hP; have R5 := Lib.hid (R4.out.upd hu NP.out.symm); have G5 := Lib.hid (G4.out.trans (Gw.upd hu)); clear hP hu)
        | (go_at_call 111; (with_reducible refine (HRL.out w5 P5.out).mono ?_); rintro x w6 ⟨ad, m, cc, rfl, hlm, hN, hP, hu⟩; have LM := Lib.hid hlm; have N6 := Lib.hid (hN.base G5.out.size); have P6 := Lib.hid hP; have R6 := Lib.hid (R5.out.gw hu NP.out.symm); have G6 := Lib.hid (G5.out.trans hu); clear hlm hN hP hu)
        | ((with_reducible refine build_row (o := ⟨some 14, _, _, _, _, _⟩) rfl _ _ rfl (ldC (a : Int) (b : Int) (c : Int) (d : Int) ad m cc) ?_ ?_); (focus (go_simp; exact pbuiltL _ _ _ _ _ _ _)))
        | ((with_reducible refine alloc_row (o := ⟨some 3, _, _, _, _, _⟩) rfl _ rfl _ LZ.out ?_); intro w7 hr hb hz; have T7 := Lib.hid hr; have N7 := Lib.hid (N6.out.kept hb); have P7 := Lib.hid (P6.out.mono hb); have R7 := Lib.hid (R6.out.below hb R6.out.lt); have G7 := Lib.hid (G6.out.trans (Gw.of_below hb)); have PT := Lib.hid (Nat.ne_of_lt P6.out.lt); have RT := Lib.hid (Nat.ne_of_lt R6.out.lt); clear hr hb hz)
        | ((with_reducible refine store_row (o := ⟨none, _, _, _, _, _⟩) rfl _ (.tmp 3) _ rfl w6.heap.size (ldC (a : Int) (b : Int) (c : Int) (d : Int) ad m cc) ?_ ?_ 50 _ T7.out ?_ ?_ ?_ ?_); (focus go_simp); (focus (first | (go_simp; done) | (go_simp; rfl))); (focus (exact LZS.out)); (focus rfl); (focus (exact ld_one _ _ _ _ _ _ _)); intro w8 hr hu; have T8 := Lib.hid hr; have N8 := Lib.hid (N7.out.upd hu (N7.out.own_ne T7.out (by decide))); have P8 := Lib.hid (P7.out.put' PT.out T7.out (nob_ld _ _ _ _ _ _ _) hu); have R8 := Lib.hid (R7.out.upd hu RT.out); have G8 := Lib.hid (G7.out.tail G6.out.size hu); have V8 := Lib.hid (show LdV w8 (.agg (ldC (a : Int) (b : Int) (c : Int) (d : Int) ad m cc).toArray) ⟨(a : Int), (b : Int), (c : Int), (d : Int), LL⟩ from ⟨ad, m, cc, rfl, hd_out (N8.out.lso hdOk) LM.out HFIT.out⟩); clear hr hu)
        | ((with_reducible refine load_row (o := ⟨some 15, _, _, _, _, _⟩) rfl _ _ rfl w6.heap.size ?_ _ (ldC (a : Int) (b : Int) (c : Int) (d : Int) ad m cc) _ T8.out Try.underlying50 rfl ?_ ?_); (focus go_simp); (focus (exact LZS.out)))
        | (go_at_call 41; (with_reducible refine (HCK.out w8 _ V8.out).mono ?_); rintro x w9 ⟨rfl, hb⟩; have T9 := Lib.hid (T8.out.below hb T8.out.lt); have N9 := Lib.hid (N8.out.kept hb); have P9 := Lib.hid (P8.out.mono hb); have R9 := Lib.hid (R8.out.below hb R8.out.lt); have G9 := Lib.hid (G8.out.trans (Gw.of_below hb)); clear hb)
        | (go_at_call 82; (with_reducible refine (pfail p lk ek 3 w9 P9.out).mono ?_); rintro x w10 ⟨rfl, hP, hu⟩; rw [FL.out, FE.out] at hP; have P10 := Lib.hid hP; have R10 := Lib.hid (R9.out.upd hu NP.out.symm); have G10 := Lib.hid (G9.out.trans (Gw.upd hu)); clear hP hu)
        | (go_at_call 34; (with_reducible refine (perr p lk ek w10 P10.out).mono ?_); rintro x w' ⟨rfl, rfl⟩)
        | ((with_reducible refine build_row (o := ⟨some 23, _, _, _, _, _⟩) rfl _ _ rfl (ldC 0 0 0 0 none 0 0) ?_ ?_); (focus (go_simp; exact ybuilt0)))
        | ((with_reducible refine store_row (o := ⟨none, _, _, _, _, _⟩) rfl _ (.tmp 2) _ rfl w.heap.size (ldC 0 0 0 0 none 0 0) ?_ ?_ 50 _ R10.out ?_ ?_ ?_ ?_); (focus go_simp); (focus (first | (go_simp; done) | (go_simp; rfl))); (focus (exact LZS.out)); (focus rfl); (focus (exact ld_one _ _ _ _ _ _ _)); intro w11 hr hu; have R11 := Lib.hid hr; have P11 := Lib.hid (P10.out.put' NP.out R10.out (nob_ld _ _ _ _ _ _ _) hu); have G11 := Lib.hid (G10.out.tail (Nat.le_refl _) hu); clear hr hu))
      exact bodyPost_ret (results_cell_row rfl _ _ w.heap.size 50 _ _ _ (by go_simp) R11.out Try.underlying50 rfl LZS.out) rfl ⟨_, _, rfl, LsN.nil _ _, P11.out, G11.out⟩
    · go_enter Try.func52, Try.ntmps52
      go_wp2_with (first
        | ((with_reducible refine alloc_row (o := ⟨some 2, _, _, _, _, _⟩) rfl _ rfl _ LZ.out ?_); intro w1 hr hb hz; have R1 := Lib.hid hr; have P1 := Lib.hid (H.out.mono hb); have G1 := Lib.hid (Gw.of_below (g := p) hb); have NP := Lib.hid (show p ≠ w.heap.size by omega); clear hr hb hz)
        | (go_at_call 80; (with_reducible refine (pnumR p 1099511627776 l e w1 P1.out).mono ?_); rw [HQ1.out]; rintro x w2 ⟨rfl, hP, hu⟩; have P2 := Lib.hid hP; have R2 := Lib.hid (R1.out.upd hu NP.out.symm); have G2 := Lib.hid (G1.out.trans (Gw.upd hu)); clear hP hu)
        | (go_at_call 80; (with_reducible refine (pnumR p 1099511627776 l1 e1 w2 P2.out).mono ?_); rw [HQ2.out]; rintro x w3 ⟨rfl, hP, hu⟩; have P3 := Lib.hid hP; have R3 := Lib.hid (R2.out.upd hu NP.out.symm); have G3 := Lib.hid (G2.out.trans (Gw.upd hu)); clear hP hu)
        | (go_at_call 80; (with_reducible refine (pnumR p 1099511627776 l2 e2 w3 P3.out).mono ?_); rw [HQ3.out]; rintro x w4 ⟨rfl, hP, hu⟩; have P4 := Lib.hid hP; have R4 := Lib.hid (R3.out.upd hu NP.out.symm); have G4 := Lib.hid (G3.out.trans (Gw.upd hu)); clear hP hu)
        | (go_at_call 80; (with_reducible refine (pnumR p 2147483648 l3 e3 w4 P4.out).mono ?_); rw [HQ4.out]; rintro x w5 ⟨rfl, hP, hu⟩; have P5 := Lib.hid hP; have R5 := Lib.hid (R4.out.upd hu NP.out.symm); have G5 := Lib.hid (G4.out.trans (Gw.upd hu)); clear hP hu)
        | (go_at_call 111; (with_reducible refine (HRL.out w5 P5.out).mono ?_); rintro x w6 ⟨ad, m, cc, rfl, hlm, hN, hP, hu⟩; have LM := Lib.hid hlm; have N6 := Lib.hid (hN.base G5.out.size); have P6 := Lib.hid hP; have R6 := Lib.hid (R5.out.gw hu NP.out.symm); have G6 := Lib.hid (G5.out.trans hu); clear hlm hN hP hu)
        | ((with_reducible refine build_row (o := ⟨some 14, _, _, _, _, _⟩) rfl _ _ rfl (ldC (a : Int) (b : Int) (c : Int) (d : Int) ad m cc) ?_ ?_); (focus (go_simp; exact pbuiltL _ _ _ _ _ _ _)))
        | ((with_reducible refine alloc_row (o := ⟨some 3, _, _, _, _, _⟩) rfl _ rfl _ LZ.out ?_); intro w7 hr hb hz; have T7 := Lib.hid hr; have N7 := Lib.hid (N6.out.kept hb); have P7 := Lib.hid (P6.out.mono hb); have R7 := Lib.hid (R6.out.below hb R6.out.lt); have G7 := Lib.hid (G6.out.trans (Gw.of_below hb)); have PT := Lib.hid (Nat.ne_of_lt P6.out.lt); have RT := Lib.hid (Nat.ne_of_lt R6.out.lt); clear hr hb hz)
        | ((with_reducible refine store_row (o := ⟨none, _, _, _, _, _⟩) rfl _ (.tmp 3) _ rfl w6.heap.size (ldC (a : Int) (b : Int) (c : Int) (d : Int) ad m cc) ?_ ?_ 50 _ T7.out ?_ ?_ ?_ ?_); (focus go_simp); (focus (first | (go_simp; done) | (go_simp; rfl))); (focus (exact LZS.out)); (focus rfl); (focus (exact ld_one _ _ _ _ _ _ _)); intro w8 hr hu; have T8 := Lib.hid hr; have N8 := Lib.hid (N7.out.upd hu (N7.out.own_ne T7.out (by decide))); have P8 := Lib.hid (P7.out.put' PT.out T7.out (nob_ld _ _ _ _ _ _ _) hu); have R8 := Lib.hid (R7.out.upd hu RT.out); have G8 := Lib.hid (G7.out.tail G6.out.size hu); have V8 := Lib.hid (show LdV w8 (.agg (ldC (a : Int) (b : Int) (c : Int) (d : Int) ad m cc).toArray) ⟨(a : Int), (b : Int), (c : Int), (d : Int), LL⟩ from ⟨ad, m, cc, rfl, hd_out (N8.out.lso hdOk) LM.out HFIT.out⟩); clear hr hu)
        | ((with_reducible refine load_row (o := ⟨some 15, _, _, _, _, _⟩) rfl _ _ rfl w6.heap.size ?_ _ (ldC (a : Int) (b : Int) (c : Int) (d : Int) ad m cc) _ T8.out Try.underlying50 rfl ?_ ?_); (focus go_simp); (focus (exact LZS.out)))
        | (go_at_call 41; (with_reducible refine (HCK.out w8 _ V8.out).mono ?_); rintro x w9 ⟨rfl, hb⟩; have T9 := Lib.hid (T8.out.below hb T8.out.lt); have N9 := Lib.hid (N8.out.kept hb); have P9 := Lib.hid (P8.out.mono hb); have R9 := Lib.hid (R8.out.below hb R8.out.lt); have G9 := Lib.hid (G8.out.trans (Gw.of_below hb)); clear hb)
        | (go_at_call 34; (with_reducible refine (perr p lk ek w9 P9.out).mono ?_); rintro x w' ⟨rfl, rfl⟩)
        | ((with_reducible refine build_row (o := ⟨some 23, _, _, _, _, _⟩) rfl _ _ rfl (ldC 0 0 0 0 none 0 0) ?_ ?_); (focus (go_simp; exact ybuilt0)))
        | ((with_reducible refine store_row (o := ⟨none, _, _, _, _, _⟩) rfl _ (.tmp 2) _ rfl w.heap.size (ldC 0 0 0 0 none 0 0) ?_ ?_ 50 _ R9.out ?_ ?_ ?_ ?_); (focus go_simp); (focus (first | (go_simp; done) | (go_simp; rfl))); (focus (exact LZS.out)); (focus rfl); (focus (exact ld_one _ _ _ _ _ _ _)); intro w11 hr hu; have R11 := Lib.hid hr; have P11 := Lib.hid (P9.out.put' NP.out R9.out (nob_ld _ _ _ _ _ _ _) hu); have G11 := Lib.hid (G9.out.tail (Nat.le_refl _) hu); clear hr hu))
      exact bodyPost_ret (results_cell_row rfl _ _ w.heap.size 50 _ _ _ (by go_simp) R11.out Try.underlying50 rfl LZS.out) rfl ⟨_, _, rfl, LsN.nil _ _, P11.out, G11.out⟩
end Go.Proofs.Ytiopcojkdglapaa.W
