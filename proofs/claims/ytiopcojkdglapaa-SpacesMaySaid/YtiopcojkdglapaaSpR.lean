/- LAYER 18 (spaces): Read of the reference. -/
import Derived.Test.YtiopcojkdglapaaSpT
import Derived.Test.YtiopcojkdglapaaLn
import Derived.Test.YtiopcojkdglapaaRcR
set_option linter.unusedSimpArgs false
set_option linter.unusedVariables false
namespace Go.Proofs.Ytiopcojkdglapaa.W
open Go Go.ChangeShapes Go.WideShapes Go.ChangeAt Go.RowKit
open Go.Proofs.Ytiopcojkdglapaa.P (enc dec)

theorem spNb : spE.Nb where
  z := by intro x hx; simp [Value.cells, B] at hx
  c := by intro s x hx; simp [B] at hx
  p := by decide
theorem sp_fill (y : Sp) : Instr.fill (fun i => some (i * spE.k, spE.k)) ((Array.range (1 * spE.k)).map (spE.z.cells[· % spE.z.cells.size]!)) [(0, .agg (spE.cells y).toArray)] = some (spE.cells y).toArray := by
  obtain ⟨n, r, w⟩ := y
  kernel_rfl
theorem built_sp (s : ByteArray) : Try.prog.built 24 [(0, .string s)] = some (Sp.cells ⟨s, 0, 0⟩).toArray := by kernel_rfl
theorem gw_below {p : Nat} {w w1 w2 : World} (h : Gw p w w1) (hb : Below w.heap.size w1 w2) : Gw p w w2 := ⟨hb.os.trans h.os, hb.tape.trans h.tape, hb.output.trans h.output, Nat.le_trans h.size hb.size, fun k hk hn => (hb.block k hk).trans (h.block k hk hn)⟩
-- ---- plain
def rdSp (l : List UInt8) (e : Int) : Sp × List UInt8 × Int :=
  (⟨str (textR 16 l e).1, ((numR 255 (textR 16 l e).2.1 (textR 16 l e).2.2).1 : Int), ((numR 255 (numR 255 (textR 16 l e).2.1 (textR 16 l e).2.2).2.1 (numR 255 (textR 16 l e).2.1 (textR 16 l e).2.2).2.2).1 : Int)⟩,
    (numR 255 (numR 255 (textR 16 l e).2.1 (textR 16 l e).2.2).2.1 (numR 255 (textR 16 l e).2.1 (textR 16 l e).2.2).2.2).2)
def rdSps : Nat → List UInt8 → Int → List Sp × List UInt8 × Int
  | 0, l, e => ([], l, e)
  | n + 1, l, e => ((rdSps n l e).1 ++ [(rdSp (rdSps n l e).2.1 (rdSps n l e).2.2).1], (rdSp (rdSps n l e).2.1 (rdSps n l e).2.2).2)
def endZ (q : List Sp × List UInt8 × Int) : List Sp × List UInt8 × Int := if q.2.2 = 0 then if checkV q.1 then q else ([], [], 3) else ([], q.2.1, q.2.2)
def readZ (l : List UInt8) (e : Int) : List Sp × List UInt8 × Int := endZ (rdSps (numR 6 l e).1 (numR 6 l e).2.1 (numR 6 l e).2.2)
theorem sp_textR_e {most : Int} {l : List UInt8} {e : Int} (h : e ≠ 0) : textR most l e = ([], l, e) := by unfold textR; rw [numR_err h]; dsimp only; rw [if_pos h]
theorem rdSp_err {l : List UInt8} {e : Int} (h : e ≠ 0) : (rdSp l e).2 = (l, e) := by
  unfold rdSp
  rw [sp_textR_e h]; dsimp only; rw [numR_err h]; dsimp only; rw [numR_err h]
theorem rdSps_stuck (l : List UInt8) (e : Int) (m : Nat) (h : (rdSps m l e).2.2 ≠ 0) : ∀ k, (rdSps (m + k) l e).2 = (rdSps m l e).2
  | 0 => rfl
  | k + 1 => by
    have ih := rdSps_stuck l e m h k
    rw [show m + (k + 1) = (m + k) + 1 by omega]
    simp only [rdSps]
    rw [ih, rdSp_err h]
theorem text_len16 (l : List UInt8) (e : Int) : (textR 16 l e).1.length ≤ 16 := by
  by_cases he : e = 0
  · subst he
    by_cases h0 : (textR 16 l 0).2.2 = 0
    · have := (text_back 16 l h0).2; omega
    · have : (textR 16 l 0).1 = [] := by
        unfold textR at h0 ⊢
        split
        · rfl
        · rename_i h1
          rw [if_neg h1] at h0
          split
          · rfl
          · rename_i h2
            rw [if_neg h2] at h0; exact absurd rfl h0
      rw [this]; simp
  · rw [sp_textR_e he]; simp
theorem rdSp_fit (l : List UInt8) (e : Int) : (rdSp l e).1.fit := by
  have h1 := text_len16 l e
  refine ⟨?_, ⟨by unfold rdSp; dsimp only; omega, numR_lt _ _ _⟩, ⟨by unfold rdSp; dsimp only; omega, numR_lt _ _ _⟩⟩
  show (textR 16 l e).1.toArray.size ≤ maxLen
  unfold maxLen
  simp; omega
theorem rdSps_fit (l : List UInt8) (e : Int) : ∀ n, ∀ s ∈ (rdSps n l e).1, s.fit
  | 0, s, h => by simp [rdSps] at h
  | n + 1, s, h => by
    simp only [rdSps, List.mem_append, List.mem_singleton] at h
    rcases h with h | rfl
    · exact rdSps_fit l e n s h
    · exact rdSp_fit _ _
theorem rdSps_len (l : List UInt8) (e : Int) : ∀ n, (rdSps n l e).1.length = n
  | 0 => rfl
  | n + 1 => by simp [rdSps, rdSps_len l e n]
theorem num_le (most : Int) (hm : 0 ≤ most) (l : List UInt8) (e : Int) : ((numR most l e).1 : Int) ≤ most := by
  by_cases he : e = 0
  · subst he
    by_cases h0 : (numR most l 0).2.2 = 0
    · exact (num_back most l h0).2
    · rw [numR_zero h0]; simpa using hm
  · rw [numR_err he]; simpa using hm
set_option maxRecDepth 100000 in
set_option maxHeartbeats 16000000 in
theorem zread (p : Nat) (l : List UInt8) (e : Int) (w : World) (h : RR w p l e) :
    Calls Try.prog 30 #[.pointer (some ⟨p, 0, none⟩)] w fun x w' => ∃ v, x = .returned v ∧ LsN spE w' w.heap.size v (readZ l e).1 ∧ RR w' p (readZ l e).2.1 (readZ l e).2.2 ∧ Gw p w w' := by
  have H := Lib.hid h
  have SZ := Lib.hid sp_size
  have MZ := Lib.hid sp_zero
  have hn6 := num_le 6 (by decide) l e
  unfold readZ
  obtain ⟨n, l1, e1, hq⟩ : ∃ a b c, numR 6 l e = (a, b, c) := ⟨_, _, _, rfl⟩
  rw [hq] at hn6 ⊢
  dsimp only at hn6 ⊢
  have HQ := Lib.hid hq
  have hn : n ≤ 6 := by omega
  have STK := Lib.hid (rdSps_stuck l1 e1)
  obtain ⟨Z, hZ⟩ : ∃ Z, endZ (rdSps n l1 e1) = Z := ⟨_, rfl⟩
  rw [hZ]
  have HZ := Lib.hid hZ
  clear h hq hn6 hZ
  go_enter Try.func30, Try.ntmps30
  go_wp2_with (first
    | (go_at_call 83; (with_reducible refine (rnumR p 6 l e w H.out).mono ?_); rw [HQ.out]; rintro x w1 ⟨rfl, hP, hu⟩; have P0 := Lib.hid hP; have G0 := Lib.hid (Gw.upd hu); clear hP hu))
  go_loopw [3, 5] (fun v i wr => ∃ (k : Nat) (Lk : List Sp) (lk : List UInt8) (ek : Int), i = .int .i64 (k : Int) ∧ k ≤ n ∧ Hid (rdSps k l1 e1 = (Lk, lk, ek)) ∧ Hid (LsN spE wr w.heap.size v Lk) ∧ Hid (RR wr p lk ek) ∧ Hid (Gw p w wr)) (fun _ i _ => n - (intOf i).toNat)
  case atStart => exact ⟨0, [], l1, e1, rfl, Nat.zero_le _, Lib.hid rfl, Lib.hid (LsN.nil _ _), P0, G0⟩
  case round =>
    obtain ⟨k, Lk, lk, ek, rfl, hk, HK, N, PR, G⟩ := hrel
    by_cases hek : ek = 0
    · subst hek
      by_cases hlt : k < n
      · obtain ⟨tx, l2, e2, ht⟩ : ∃ a b c, textR 16 lk 0 = (a, b, c) := ⟨_, _, _, rfl⟩
        obtain ⟨na, l3, e3, ha⟩ : ∃ a b c, numR 255 l2 e2 = (a, b, c) := ⟨_, _, _, rfl⟩
        obtain ⟨nb, l4, e4, hb4⟩ : ∃ a b c, numR 255 l3 e3 = (a, b, c) := ⟨_, _, _, rfl⟩
        have hrd : rdSp lk 0 = (⟨str tx, (na : Int), (nb : Int)⟩, l4, e4) := by unfold rdSp; rw [ht]; dsimp only; rw [ha]; dsimp only; rw [hb4]
        have hft := rdSp_fit lk 0
        rw [hrd] at hft
        have HK2 := Lib.hid (show rdSps (k + 1) l1 e1 = (Lk ++ [⟨str tx, (na : Int), (nb : Int)⟩], l4, e4) by simp only [rdSps]; rw [HK.out]; dsimp only; rw [hrd])
        have FT := Lib.hid hft
        have HT := Lib.hid ht
        have HA := Lib.hid ha
        have HB := Lib.hid hb4
        have LL := Lib.hid (show Lk.length ≤ 6 by have := rdSps_len l1 e1 k; rw [HK.out] at this; dsimp only at this; omega)
        have g2 : (k : Int) < (n : Int) := by omega
        clear ht ha hb4 hrd hft
        go_wp2_with (first
          | (go_at_call 35; (with_reducible refine (rerr p lk 0 wr PR.out).mono ?_); rintro x w' ⟨rfl, rfl⟩)
          | (go_at_call 84; (with_reducible refine (rtextR p 16 lk 0 wr PR.out).mono ?_); rw [HT.out]; rintro x w1 ⟨rfl, hP, hu⟩; have P1 := Lib.hid hP; have N1 := Lib.hid (LsN.rr (by decide) spNb N.out PR.out (Gw.upd hu)); have G1 := Lib.hid (G.out.trans (Gw.upd hu)); have L1 := Lib.hid (show p < w1.heap.size from P1.out.lt); have S1 := Lib.hid G1.out.size; clear hP hu)
          | (go_at_call 83; have hb := Below.alloc (Below.refl w1.heap.size w1) (Nat.le_refl _) (.cells #[.string (str tx), .int .i64 0, .int .i64 0] 24); have hr : Row (w1.alloc (.cells #[.string (str tx), .int .i64 0, .int .i64 0] 24)) w1.heap.size 24 (Sp.cells ⟨str tx, 0, 0⟩) := Row.new w1 _ _; generalize w1.alloc (.cells #[.string (str tx), .int .i64 0, .int .i64 0] 24) = w3 at hb hr ⊢; have R3 := Lib.hid hr; have P3 := Lib.hid (P1.out.mono hb); have N3 := Lib.hid (N1.out.kept hb); have G3 := Lib.hid (G1.out.trans (Gw.of_below hb)); have NO := Lib.hid (show u3.ownBlock ≠ some w1.heap.size from fun h => by have := (N1.out.lt _ h).2; omega); have NP := Lib.hid (show p ≠ w1.heap.size by have := L1.out; omega); clear hr hb; (with_reducible refine (rnumR p 255 l2 e2 w3 P3.out).mono ?_); rw [HA.out]; rintro x w4 ⟨rfl, hP, hu⟩; have R4 := Lib.hid (R3.out.upd hu NP.out.symm); obtain ⟨c0, c1, c2⟩ := R4.out.sp3c; have z1 := R4.out.frozen 1; have N4 := Lib.hid (LsN.rr (by decide) spNb N3.out P3.out (Gw.upd hu)); have G4 := Lib.hid (G3.out.trans (Gw.upd hu)); have U5 := Lib.hid (Upd.setCell w4 w1.heap.size 1 (.int .i64 (na : Int))); have R5 := Lib.hid (show Row (w4.setCell ⟨w1.heap.size, 1, none⟩ (.int .i64 (na : Int))) w1.heap.size 24 (Sp.cells ⟨str tx, (na : Int), 0⟩) from R4.out.setV 1 (.int .i64 (na : Int))); have P5 := Lib.hid (hP.put NP.out R4.out (spNb.c ⟨str tx, 0, 0⟩) U5.out); have N5 := Lib.hid (N4.out.upd U5.out NO.out); have G5 := Lib.hid (G4.out.tail S1.out U5.out); clear hP hu)
          | (go_at_call 83; (with_reducible refine (rnumR p 255 l3 e3 (w4.setCell ⟨w1.heap.size, 1, none⟩ (.int .i64 (na : Int))) P5.out).mono ?_); rw [HB.out]; rintro x w6 ⟨rfl, hP, hu⟩; clear c0 c1 c2 z1; have R6 := Lib.hid (R5.out.upd hu NP.out.symm); obtain ⟨c0, c1, c2⟩ := R6.out.sp3c; have z2 := R6.out.frozen 2; have N6 := Lib.hid (LsN.rr (by decide) spNb N5.out P5.out (Gw.upd hu)); have G6 := Lib.hid (G5.out.trans (Gw.upd hu)); have U7 := Lib.hid (Upd.setCell w6 w1.heap.size 2 (.int .i64 (nb : Int))); have R7 := Lib.hid (show Row (w6.setCell ⟨w1.heap.size, 2, none⟩ (.int .i64 (nb : Int))) w1.heap.size 24 (Sp.cells ⟨str tx, (na : Int), (nb : Int)⟩) from R6.out.setV 2 (.int .i64 (nb : Int))); have P7 := Lib.hid (hP.put NP.out R6.out (spNb.c ⟨str tx, (na : Int), 0⟩) U7.out); have N7 := Lib.hid (N6.out.upd U7.out NO.out); have G7 := Lib.hid (G6.out.tail S1.out U7.out); clear hP hu)
          | ((with_reducible refine load_row (o := ⟨some 29, _, _, _, _, _⟩) rfl _ _ rfl w1.heap.size ?_ _ (Sp.cells ⟨str tx, (na : Int), (nb : Int)⟩) _ R7.out Try.underlying24 rfl ?_ ?_); (focus go_simp); (focus (exact SZ.out)))
          | ((with_reducible refine build_ls spOk sp_fill (o := ⟨some 30, _, _, _, _, _⟩) rfl _ rfl ⟨str tx, (na : Int), (nb : Int)⟩ ?_ ?_ (by decide) ?_); (focus (first | (go_simp; done) | (go_simp; rfl))); (focus (exact FT.out)); intro w8 hl hb hz; have Q8 := Lib.hid hl; have P8 := Lib.hid (P7.out.mono hb); have N8 := Lib.hid (N7.out.kept hb); have G8 := Lib.hid (G7.out.trans (Gw.of_below hb)); clear hl hb hz)
          | (at_builtin; (with_reducible refine append_lsn spOk spNb rfl _ _ rfl w.heap.size u3 Lk ?_ N8.out _ 0 1 1 [⟨str tx, (na : Int), (nb : Int)⟩] ?_ Q8.out (by decide) ?_ G8.out.size ?_); (focus (first | (go_simp; done) | (go_simp; rfl))); (focus (first | (go_simp; done) | (go_simp; rfl))); (focus (have := LL.out; omega)); intro v9 w9 hN hb hg; have N9 := Lib.hid hN; have P9 := Lib.hid (RR.ownL (by decide) spNb P8.out N8.out hg); have G9 := Lib.hid (gw_below G8.out hb); clear hN hb hg))
        go_roundw
        case rel => exact ⟨k + 1, Lk ++ [⟨str tx, (na : Int), (nb : Int)⟩], l4, e4, vint (by omega), by omega, HK2, N9, P9, G9⟩
        case measure => simp [intOf]; omega
      · obtain rfl : n = k := by omega
        have hfit : ∀ s ∈ Lk, s.fit := by have := rdSps_fit l1 e1 n; rw [HK.out] at this; exact this
        obtain ⟨a, c, hv, hls, -⟩ := (N.out.lso spOk).ls spOk hfit
        have hZ := HZ.out
        rw [HK.out] at hZ
        unfold endZ at hZ
        dsimp only at hZ
        rw [if_pos rfl] at hZ
        have HLs := Lib.hid hls
        subst hv
        obtain ⟨ck, hck⟩ : ∃ b, checkV Lk = b := ⟨_, rfl⟩
        have HC : Hid (Calls Try.prog 23 #[.slice a Lk.length c] wr fun x w' => x = .returned (.bool ck) ∧ Below wr.heap.size wr w') := Lib.hid (by rw [← hck]; exact zcheck a Lk.length c Lk wr hls)
        rw [hck] at hZ
        obtain ⟨m, hm⟩ : ∃ m, Lk.length = m := ⟨_, rfl⟩
        rw [hm] at N HC ⊢
        clear hls hfit hck hm HLs
        rcases ck with _ | _
        · rw [if_neg (by decide)] at hZ
          subst hZ
          go_wp2_with (first
            | (go_at_call 35; (with_reducible refine (rerr p lk 0 wr PR.out).mono ?_); rintro x w' ⟨rfl, rfl⟩)
            | (go_at_call 23; (with_reducible refine HC.out.mono ?_); rintro x w2 ⟨rfl, hb⟩; have P2 := Lib.hid (PR.out.mono hb); have G2 := Lib.hid (G.out.trans (Gw.of_below hb)); clear hb)
            | (go_at_call 85; (with_reducible refine (rfail p lk 0 3 w2 P2.out).mono ?_); rintro x w3 ⟨rfl, hP, hu⟩; have P3 := Lib.hid (show RR w3 p [] 3 from hP); have G3 := Lib.hid (G2.out.trans (Gw.upd hu)); clear hP hu)
            | (go_at_call 35; (with_reducible refine (rerr p [] 3 w3 P3.out).mono ?_); rintro x w' ⟨rfl, rfl⟩))
          go_ret
          exact ⟨_, rfl, LsN.nil _ _, P3.out, G3.out⟩
        · rw [if_pos rfl] at hZ
          subst hZ
          go_wp2_with (first
            | (go_at_call 35; (with_reducible refine (rerr p lk 0 wr PR.out).mono ?_); rintro x w' ⟨rfl, rfl⟩)
            | (go_at_call 23; (with_reducible refine HC.out.mono ?_); rintro x w2 ⟨rfl, hb⟩; have P2 := Lib.hid (PR.out.mono hb); have N2 := Lib.hid (N.out.kept hb); have G2 := Lib.hid (G.out.trans (Gw.of_below hb)); clear hb)
            | (go_at_call 35; (with_reducible refine (rerr p lk 0 w2 P2.out).mono ?_); rintro x w' ⟨rfl, rfl⟩))
          go_ret
          exact ⟨_, rfl, N2.out, P2.out, G2.out⟩
    · have hq : (ek == 0) = false := by simpa using hek
      have hq2 : (ek != 0) = true := by simpa using hek
      have hZ := HZ.out
      have hst : (rdSps n l1 e1).2 = (lk, ek) := by
        have h1 := STK.out k (by rw [HK.out]; exact hek) (n - k)
        rw [show k + (n - k) = n by omega, HK.out] at h1
        exact h1
      have hz2 : Z = ([], lk, ek) := by
        rw [← hZ]; unfold endZ; rw [hst]; dsimp only; rw [if_neg hek]
      subst hz2
      clear hZ hst
      by_cases hlt : k < n
      · have g2 : (k : Int) < (n : Int) := by omega
        go_wp2_with (first
          | (go_at_call 35; (with_reducible refine (rerr p lk ek wr PR.out).mono ?_); rintro x w' ⟨rfl, rfl⟩))
        go_ret
        exact ⟨_, rfl, LsN.nil _ _, PR.out, G.out⟩
      · obtain rfl : n = k := by omega
        go_wp2_with (first
          | (go_at_call 35; (with_reducible refine (rerr p lk ek wr PR.out).mono ?_); rintro x w' ⟨rfl, rfl⟩))
        go_ret
        exact ⟨_, rfl, LsN.nil _ _, PR.out, G.out⟩
end Go.Proofs.Ytiopcojkdglapaa.W
