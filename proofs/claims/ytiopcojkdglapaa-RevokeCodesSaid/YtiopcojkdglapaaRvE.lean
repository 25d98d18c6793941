/- LAYER 21 (revoke): Read of both. -/
import Derived.Test.YtiopcojkdglapaaRvD
import Derived.Test.YtiopcojkdglapaaSt
set_option linter.unusedSimpArgs false
set_option linter.unusedVariables false
namespace Go.Proofs.Ytiopcojkdglapaa.W
open Go Go.ChangeShapes Go.WideShapes Go.ChangeAt Go.RowKit
open Go.Proofs.Ytiopcojkdglapaa.P (enc dec)
open Go.Proofs.Ytiopcojkdglapaa.S

theorem nob_rv (ep nx : Int) (a : Option Addr) (n c : Nat) : NoB (rvC ep nx a n c) := by intro x hx; simp [B] at hx
theorem gw_below21 {p : Nat} {w w1 w2 : World} (h : Gw p w w1) (hb : Below w.heap.size w1 w2) : Gw p w w2 := ⟨hb.os.trans h.os, hb.tape.trans h.tape, hb.output.trans h.output, Nat.le_trans h.size hb.size, fun k hk hn => (hb.block k hk).trans (h.block k hk hn)⟩
theorem RP.putZ {w w' : World} {p g : Nat} {t : TypeId} {l : List UInt8} {e : Int} {L : List Value} (h : RP w p l e) (hpg : p ≠ g) (hq : Row w g t L) (hnb : NoB L) (hu : Upd w w' g) : RP w' p l e := by
  obtain ⟨a, cap, hh, hr⟩ := h.ex
  exact ⟨⟨a, cap, by rw [hu.block p hpg]; exact hh, hr.upd' hu (hr.apart hq (fun x hx => hnb x (by simpa using hx)))⟩, h.small, h.hnone⟩
theorem RR.putZ {w w' : World} {p g : Nat} {t : TypeId} {l : List UInt8} {e : Int} {L : List Value} (h : RR w p l e) (hpg : p ≠ g) (hq : Row w g t L) (hnb : NoB L) (hu : Upd w w' g) : RR w' p l e := by
  obtain ⟨a, cap, hh, hr⟩ := h.ex
  exact ⟨⟨a, cap, by rw [hu.block p hpg]; exact hh, hr.upd' hu (hr.apart hq (fun x hx => hnb x (by simpa using hx)))⟩, h.small, h.hnone⟩
theorem LsN.own_neZ {E : El Int} {w : World} {v : Value} {L : List Int} {base g : Nat} {t : TypeId} {C : List Value} (h : LsN E w base v L) (hr : Row w g t C) (ht : E.eT ≠ t) : v.ownBlock ≠ some g := by
  rcases h with ⟨rfl, -⟩ | ⟨b, cap, cur, rfl, -, hh, -⟩
  · simp [Value.ownBlock]
  · intro e
    have : b = g := by simpa [Value.ownBlock] using e
    subst this
    unfold Row at hr
    rw [hh] at hr
    simp at hr
    exact ht hr.2
set_option maxRecDepth 100000 in
theorem bi1l {w : World} {ops : Array Oper} {rest : List Oper} {o : Oper} {a : Act} {Q : Exit → Act → World → Prop} (hgd : o.guard = none) (x0 : Operand)
    (ho : o.op = .buildSlice 76 1 #[(0, x0)]) (v0 : Int) (h0 : a.eval x0 = .int .i64 v0) (r0 : SI64 v0)
    (hk : ∀ w', Ls intE w' (some ⟨w.heap.size, 0, none⟩) 1 1 [v0] → Below w.heap.size w w' → w'.heap.size = w.heap.size + 1 → wpList Try.prog ops Q rest (a.put o.dst (.slice (some ⟨w.heap.size, 0, none⟩) 1 1)) w') : wpList Try.prog ops Q (o :: rest) a w := by
  obtain ⟨i0, hi0, hz0, hz1, hz2⟩ := info_parts infoInt19
  refine wpList_buildSlice hgd 76 3 1 _ ho #[.int .i64 v0] i0 _ Try.underlying76 hi0 hz0 (by rw [hz1]; decide) (by rw [hz1]; decide) (fill_i1 w o a x0 v0 i0 hz1 h0) ?_
  exact hk _ (Ls.of_rowI (Row.new _ _ _) rfl (Nat.le_refl 1) (by unfold maxLen; omega) (by simp [flatE]) (by simpa using r0)) ((Below.refl _ _).alloc (Nat.le_refl _) _) (by simp)
/-- while one is read: the reader, the result's row, the value's row, its list -/
structure ZS (w0 w : World) (p : Nat) (l : List UInt8) (e : Int) (g2 gT : Nat) (C2 CT : List Value) (v : Value) (L : List Int) : Prop where
  rr : RR w p l e
  r2 : Row w g2 78 C2
  rT : Row w gT 78 CT
  ln : LsN intE w w0.heap.size v L
  gw : Gw p w0 w
  n2 : p ≠ g2
  nT : p ≠ gT
  n2T : g2 ≠ gT
  b2 : w0.heap.size ≤ g2
  bT : w0.heap.size ≤ gT
section
variable {w0 w w' : World} {p g2 gT : Nat} {l : List UInt8} {e : Int} {C2 CT : List Value} {v : Value} {L : List Int}
theorem ZS.rd (h : ZS w0 w p l e g2 gT C2 CT v L) {l' : List UInt8} {e' : Int} (hP : RR w' p l' e') (hu : Upd w w' p) : ZS w0 w' p l' e' g2 gT C2 CT v L :=
  ⟨hP, h.r2.upd hu h.n2.symm, h.rT.upd hu h.nT.symm, LsN.rr (by decide) intNb h.ln h.rr (Gw.upd hu), h.gw.trans (Gw.upd hu), h.n2, h.nT, h.n2T, h.b2, h.bT⟩
theorem ZS.grow (h : ZS w0 w p l e g2 gT C2 CT v L) (hb : Below w.heap.size w w') : ZS w0 w' p l e g2 gT C2 CT v L :=
  ⟨h.rr.mono hb, h.r2.below hb h.r2.lt, h.rT.below hb h.rT.lt, h.ln.kept hb, h.gw.trans (Gw.of_below hb), h.n2, h.nT, h.n2T, h.b2, h.bT⟩
theorem ZS.setT (h : ZS w0 w p l e g2 gT C2 CT v L) (hN : NoB CT) {CT' : List Value} (hr : Row w' gT 78 CT') (hu : Upd w w' gT) : ZS w0 w' p l e g2 gT C2 CT' v L :=
  ⟨h.rr.putZ h.nT h.rT hN hu, h.r2.upd hu h.n2T, hr, h.ln.upd hu (h.ln.own_neZ h.rT (by decide)), h.gw.tail h.bT hu, h.n2, h.nT, h.n2T, h.b2, h.bT⟩
theorem ZS.set2 (h : ZS w0 w p l e g2 gT C2 CT v L) (hN : NoB C2) {C' : List Value} (hr : Row w' g2 78 C') (hu : Upd w w' g2) : ZS w0 w' p l e g2 gT C' CT v L :=
  ⟨h.rr.putZ h.n2 h.r2 hN hu, hr, h.rT.upd hu h.n2T.symm, h.ln.upd hu (h.ln.own_neZ h.r2 (by decide)), h.gw.tail h.b2 hu, h.n2, h.nT, h.n2T, h.b2, h.bT⟩
theorem ZS.app (h : ZS w0 w p l e g2 gT C2 CT v L) {v' : Value} {L' : List Int} (hN : LsN intE w' w0.heap.size v' L') (hb : Below w0.heap.size w w') (hg : w.grownBy w' v.ownBlock) : ZS w0 w' p l e g2 gT C2 CT v' L' :=
  ⟨RR.ownL (by decide) intNb h.rr h.ln hg, (hg.block g2 h.r2.lt (fun e => h.ln.own_neZ h.r2 (by decide) e.symm)).trans h.r2, (hg.block gT h.rT.lt (fun e => h.ln.own_neZ h.rT (by decide) e.symm)).trans h.rT, hN, gw_below21 h.gw hb, h.n2, h.nT, h.n2T, h.b2, h.bT⟩
end
theorem zbuilt1 (q : Int) : Try.prog.built 78 [(0, .int .i64 q)] = some (rvC q 0 none 0 0).toArray := by kernel_rfl
-- ---- the program's
set_option maxRecDepth 100000 in
set_option maxHeartbeats 4000000 in
theorem preadid (p : Nat) (l : List UInt8) (e : Int) (w : World) (h : RP w p l e) :
    Calls Try.prog 117 #[.pointer (some ⟨p, 0, none⟩)] w fun x w' => x = .returned (.int .i64 ((numR 2147483648 l e).1 : Int)) ∧ RP w' p (numR 2147483648 l e).2.1 (numR 2147483648 l e).2.2 ∧ Upd w w' p := by
  have HC := Lib.hid (pnumR p 2147483648 l e w h)
  obtain ⟨a, l1, e1, hq1⟩ : ∃ x y z, numR 2147483648 l e = (x, y, z) := ⟨_, _, _, rfl⟩
  rw [hq1] at HC ⊢
  clear h hq1
  go_enter Try.func117, Try.ntmps117
  go_wp2_with (go_at_call 80; (with_reducible refine HC.out.mono ?_); rintro x w1 ⟨rfl, hP, hu⟩; have P1 := Lib.hid hP; have U1 := Lib.hid hu; clear hP hu)
  go_ret
  exact ⟨rfl, P1.out, U1.out⟩
/-- what lists.Read gives: none behind an error -/
def lsZ (q : List Int × List UInt8 × Int) : List Int := if q.2.2 = 0 then q.1 else []
set_option maxRecDepth 100000 in
set_option maxHeartbeats 16000000 in
theorem iplsread (p : Nat) (l : List UInt8) (e : Int) (w : World) (h : RP w p l e) (n : Nat) (l1 : List UInt8) (e1 : Int) (hq : numR 16 l e = (n, l1, e1)) (hn : n ≤ 16) :
    Calls Try.prog 116 #[.pointer (some ⟨p, 0, none⟩), .int .i64 16, .func (.func 117) #[] #[]] w fun x w' => ∃ a m c, x = .returned (.slice a m c) ∧ (lsZ (rdIs n l1 e1)).length = m ∧ LsN intE w' w.heap.size (.slice a m c) (lsZ (rdIs n l1 e1)) ∧ RP w' p (rdIs n l1 e1).2.1 (rdIs n l1 e1).2.2 ∧ Gw p w w' := by
  have H := Lib.hid h
  have HQ := Lib.hid hq
  obtain ⟨Z, hZ⟩ : ∃ Z, rdIs n l1 e1 = Z := ⟨_, rfl⟩
  rw [hZ]
  have HZ := Lib.hid hZ
  clear h hq hZ
  go_enter Try.func116, Try.ntmps116
  go_wp2_with (first
    | (go_at_call 80; (with_reducible refine (pnumR p 16 l e w H.out).mono ?_); rw [HQ.out]; rintro x w1 ⟨rfl, hP, hu⟩; have P1 := Lib.hid hP; have G1 := Lib.hid (Gw.upd hu); clear hP hu))
  go_loopw [7, 11] (fun v i wr => ∃ (k : Nat) (Lk : List Int) (lk : List UInt8) (ek : Int) (ad : Option Addr) (m cc : Nat), v = .slice ad m cc ∧ i = .int .i64 (k : Int) ∧ k ≤ n ∧ Lk.length = m ∧ Hid (rdIs k l1 e1 = (Lk, lk, ek)) ∧ Hid (LsN intE wr w.heap.size (.slice ad m cc) Lk) ∧ Hid (RP wr p lk ek) ∧ Hid (Gw p w wr)) (fun _ i _ => n - (intOf i).toNat)
  case atStart => exact ⟨0, [], l1, e1, none, 0, 0, rfl, rfl, Nat.zero_le _, rfl, Lib.hid rfl, Lib.hid (LsN.nil _ _), P1, G1⟩
  case round =>
    obtain ⟨k, Lk, lk, ek, ad, m, cc, rfl, rfl, hk, hlm, HK, N, P, G⟩ := hrel
    have HLM := Lib.hid hlm
    have hmk : m ≤ 16 := by have := rdIs_len l1 e1 k; rw [HK.out] at this; dsimp only at this; omega
    clear hlm
    by_cases hlt : k < n
    · obtain ⟨s, lx, ex, hrd⟩ : ∃ x y z, numR 2147483648 lk ek = (x, y, z) := ⟨_, _, _, rfl⟩
      have hft := rdIs_fit l1 e1 (k + 1)
      have HRH := Lib.hid (preadid p lk ek wr P.out)
      rw [hrd] at HRH
      have HK2 := Lib.hid (show rdIs (k + 1) l1 e1 = (Lk ++ [(s : Int)], lx, ex) by simp only [rdIs]; rw [HK.out]; dsimp only; rw [hrd])
      rw [HK2.out] at hft
      have FT := Lib.hid hft
      have FS := Lib.hid (hft (s : Int) (by simp))
      have g2 : (k : Int) < (n : Int) := by omega
      clear hrd hft
      go_wp2_with (first
        | (go_at_call 117; (with_reducible refine HRH.out.mono ?_); rintro x w3 ⟨rfl, hP, hu⟩; have P3 := Lib.hid hP; have N3 := Lib.hid (LsN.rp intNb N.out P.out (Gw.upd hu)); have G3 := Lib.hid (G.out.trans (Gw.upd hu)); clear hP hu)
        | ((with_reducible refine bi1l (o := ⟨some 17, _, _, _, _, _⟩) rfl _ rfl (s : Int) ?_ FS.out ?_); (focus (first | (go_simp; done) | (go_simp; rfl))); intro w4 hl hb hz; have Q4 := Lib.hid hl; have P4 := Lib.hid (P3.out.mono hb); have N4 := Lib.hid (N3.out.kept hb); have G4 := Lib.hid (G3.out.trans (Gw.of_below hb)); clear hl hb hz)
        | (at_builtin; (with_reducible refine append_lsn intOk intNb rfl _ _ rfl w.heap.size (.slice ad m cc) Lk ?_ N4.out _ 0 1 1 [(s : Int)] ?_ Q4.out (by decide) ?_ G4.out.size ?_); (focus (first | (go_simp; done) | (go_simp; rfl))); (focus (first | (go_simp; done) | (go_simp; rfl))); (focus (rw [HLM.out]; omega)); intro v5 w5 hN hb hg; have P5 := Lib.hid (RP.ownL intNb P4.out N4.out hg); have G5 := Lib.hid (gw_below21 G4.out hb); obtain ⟨m5, hm5⟩ : ∃ q, (Lk ++ [(s : Int)]).length = q := ⟨_, rfl⟩; obtain ⟨a5, c5, hv5, -, -⟩ := (hN.lso intOk).ls intOk FT.out; rw [hm5] at hv5; subst hv5; have N5 := Lib.hid hN; have M5 := Lib.hid hm5; clear hN hb hg hm5))
      go_roundw
      case rel => exact ⟨k + 1, _, lx, ex, a5, m5, c5, rfl, vint (by omega), by omega, M5.out, HK2, N5, P5, G5⟩
      case measure => simp [intOf]; omega
    · obtain rfl : n = k := by omega
      have hZ := HZ.out
      rw [HK.out] at hZ
      by_cases hek : ek = 0
      · subst hek
        have HLS := Lib.hid (show lsZ Z = Lk by rw [← hZ]; unfold lsZ; rw [if_pos rfl])
        have HZ2 := Lib.hid (show Z.2 = (lk, 0) by rw [← hZ])
        clear hZ
        go_wp2_with (first
          | (go_at_call 34; (with_reducible refine (perr p lk 0 wr P.out).mono ?_); rintro x w' ⟨rfl, rfl⟩))
        go_ret
        exact ⟨ad, m, cc, rfl, by rw [HLS.out]; exact HLM.out, by rw [HLS.out]; exact N.out, by rw [HZ2.out]; exact P.out, G.out⟩
      · have hq : (ek == 0) = false := by simpa using hek
        have hq2 : (ek != 0) = true := by simpa using hek
        have HLS := Lib.hid (show lsZ Z = [] by rw [← hZ]; unfold lsZ; dsimp only; rw [if_neg hek])
        have HZ2 := Lib.hid (show Z.2 = (lk, ek) by rw [← hZ])
        clear hZ
        go_wp2_with (first
          | (go_at_call 34; (with_reducible refine (perr p lk ek wr P.out).mono ?_); rintro x w' ⟨rfl, rfl⟩))
        go_ret
        exact ⟨none, 0, 0, rfl, by rw [HLS.out]; rfl, by rw [HLS.out]; exact LsN.nil _ _, by rw [HZ2.out]; exact P.out, G.out⟩
set_option maxRecDepth 100000 in
set_option maxHeartbeats 16000000 in
theorem prread (p : Nat) (l : List UInt8) (e : Int) (w : World) (h : RP w p l e) :
    Calls Try.prog 58 #[.pointer (some ⟨p, 0, none⟩)] w fun x w' => ∃ a c, x = .returned (.agg (rvC (readRv l e).1.ep (readRv l e).1.nx a (readRv l e).1.ids.length c).toArray) ∧ LsN intE w' w.heap.size (.slice a (readRv l e).1.ids.length c) (readRv l e).1.ids ∧ RP w' p (readRv l e).2.1 (readRv l e).2.2 ∧ Gw p w w' := by
  have H := Lib.hid h
  have LZS := Lib.hid rv_size
  have LZ := Lib.hid rv_zero
  have hpl := h.lt
  have hm1 := rv_num_le 2147483648 (by decide) l e
  obtain ⟨a, l1, e1, hq1⟩ : ∃ x y z, numR 2147483648 l e = (x, y, z) := ⟨_, _, _, rfl⟩
  rw [hq1] at hm1
  dsimp only at hm1
  have HQ1 := Lib.hid hq1
  have hm2 := rv_num_le 2147483648 (by decide) l1 e1
  obtain ⟨b, l2, e2, hq2⟩ : ∃ x y z, numR 2147483648 l1 e1 = (x, y, z) := ⟨_, _, _, rfl⟩
  rw [hq2] at hm2
  dsimp only at hm2
  have HQ2 := Lib.hid hq2
  have hm3 := rv_num_le 16 (by decide) l2 e2
  obtain ⟨n, l3, e3, hq3⟩ : ∃ x y z, numR 16 l2 e2 = (x, y, z) := ⟨_, _, _, rfl⟩
  rw [hq3] at hm3
  dsimp only at hm3
  obtain ⟨L, lk, ek, hk⟩ : ∃ x y z, rdIs n l3 e3 = (x, y, z) := ⟨_, _, _, rfl⟩
  have hfit := rdIs_fit l3 e3 n
  rw [hk] at hfit
  have HRL := Lib.hid (fun w h => iplsread p l2 e2 w h n l3 e3 hq3 (by omega))
  rw [hk] at HRL
  dsimp only at HRL
  obtain ⟨LL, hLL⟩ : ∃ x, lsZ (L, lk, ek) = x := ⟨_, rfl⟩
  rw [hLL] at HRL
  have HFIT := Lib.hid (show ∀ x ∈ LL, SI64 x from fun x hx => by rw [← hLL] at hx; unfold lsZ at hx; split at hx; exact hfit x hx; cases hx)
  have SIA := Lib.hid (show SI64 (a : Int) from ⟨by omega, by omega⟩)
  have SIB := Lib.hid (show SI64 (b : Int) from ⟨by omega, by omega⟩)
  obtain ⟨ck, hck⟩ : ∃ x, Rv.ok ⟨(a : Int), (b : Int), LL⟩ = x := ⟨_, rfl⟩
  have HCK := Lib.hid (fun w' v (hv : RvV w' v ⟨(a : Int), (b : Int), LL⟩) => prcheck v ⟨(a : Int), (b : Int), LL⟩ w' hv)
  rw [hck] at HCK
  obtain ⟨Z, hZ2⟩ : ∃ Z, endRv ⟨(a : Int), (b : Int), L⟩ (lk, ek) = Z := ⟨_, rfl⟩
  rw [show readRv l e = Z by unfold readRv; simp only [hq1, hq2, hq3, hk]; exact hZ2]
  clear h hq1 hq2 hq3 hk hfit
  by_cases hek : ek = 0
  · subst hek
    have hLL2 : LL = L := by rw [← hLL]; unfold lsZ; rw [if_pos rfl]
    subst hLL2
    unfold endRv at hZ2
    dsimp only at hZ2
    rw [if_pos rfl, hck] at hZ2
    clear hLL hck
    cases ck
    · rw [if_neg (by decide)] at hZ2
      subst hZ2
      have FL := Lib.hid (show failL lk 0 3 = [] by unfold failL; rw [if_neg (by decide)])
      have FE := Lib.hid (show failE 0 3 = 3 by unfold failE; rw [if_neg (by decide)])
      go_enter Try.func58, Try.ntmps58
      go_wp2_with (first
      | ((with_reducible refine alloc_row (o := ⟨some 2, _, _, _, _, _⟩) rfl _ rfl _ LZ.out ?_); intro w1 hr hb hz; have R1 := Lib.hid hr; have P1 := Lib.hid (H.out.mono hb); have G1 := Lib.hid (Gw.of_below (g := p) hb); have NP := Lib.hid (show p ≠ w.heap.size by omega); clear hr hb hz)
      | (go_at_call 80; (with_reducible refine (pnumR p 2147483648 l e w1 P1.out).mono ?_); rw [HQ1.out]; rintro x w2 ⟨rfl, hP, hu⟩; have P2 := Lib.hid hP; have R2 := Lib.hid (R1.out.upd hu NP.out.symm); have G2 := Lib.hid (G1.out.trans (Gw.upd hu)); clear hP hu)
      | (go_at_call 80; (with_reducible refine (pnumR p 2147483648 l1 e1 w2 P2.out).mono ?_); rw [HQ2.out]; rintro x w3 ⟨rfl, hP, hu⟩; have P3 := Lib.hid hP; have R3 := Lib.hid (R2.out.upd hu NP.out.symm); have G3 := Lib.hid (G2.out.trans (Gw.upd hu)); clear hP hu)
      | (go_at_call 116; (with_reducible refine (HRL.out w3 P3.out).mono ?_); rintro x w6 ⟨ad, m, cc, rfl, hlm, hN, hP, hu⟩; have LM := Lib.hid hlm; have N6 := Lib.hid (hN.base G3.out.size); have P6 := Lib.hid hP; have R6 := Lib.hid (R3.out.gw hu NP.out.symm); have G6 := Lib.hid (G3.out.trans hu); clear hlm hN hP hu)
      | ((with_reducible refine build_row (o := ⟨some 10, _, _, _, _, _⟩) rfl _ _ rfl (rvC (a : Int) (b : Int) ad m cc) ?_ ?_); (focus (go_simp; exact rv_built3 _ _ _ _ _)))
      | ((with_reducible refine alloc_row (o := ⟨some 3, _, _, _, _, _⟩) rfl _ rfl _ LZ.out ?_); intro w7 hr hb hz; have T7 := Lib.hid hr; have N7 := Lib.hid (N6.out.kept hb); have P7 := Lib.hid (P6.out.mono hb); have R7 := Lib.hid (R6.out.below hb R6.out.lt); have G7 := Lib.hid (G6.out.trans (Gw.of_below hb)); have PT := Lib.hid (Nat.ne_of_lt P6.out.lt); have RT := Lib.hid (Nat.ne_of_lt R6.out.lt); clear hr hb hz)
      | ((with_reducible refine store_row (o := ⟨none, _, _, _, _, _⟩) rfl _ (.tmp 3) _ rfl w6.heap.size (rvC (a : Int) (b : Int) ad m cc) ?_ ?_ 78 _ T7.out ?_ ?_ ?_ ?_); (focus go_simp); (focus (first | (go_simp; done) | (go_simp; rfl))); (focus (exact LZS.out)); (focus rfl); (focus (exact rv_one _ _ _ _ _)); intro w8 hr hu; have T8 := Lib.hid hr; have N8 := Lib.hid (N7.out.upd hu (N7.out.own_neZ T7.out (by decide))); have P8 := Lib.hid (P7.out.putZ PT.out T7.out (nob_rv _ _ _ _ _) hu); have R8 := Lib.hid (R7.out.upd hu RT.out); have G8 := Lib.hid (G7.out.tail G6.out.size hu); have V8 := Lib.hid (show RvV w8 (.agg (rvC (a : Int) (b : Int) ad m cc).toArray) ⟨(a : Int), (b : Int), LL⟩ from ⟨ad, m, cc, rfl, (int_out (N8.out.lso intOk) LM.out HFIT.out).1, SIA.out, SIB.out⟩); clear hr hu)
      | ((with_reducible refine load_row (o := ⟨some 11, _, _, _, _, _⟩) rfl _ _ rfl w6.heap.size ?_ _ (rvC (a : Int) (b : Int) ad m cc) _ T8.out Try.underlying78 rfl ?_ ?_); (focus go_simp); (focus (exact LZS.out)))
      | (go_at_call 68; (with_reducible refine (HCK.out w8 _ V8.out).mono ?_); rintro x w9 ⟨rfl, hb⟩; have T9 := Lib.hid (T8.out.below hb T8.out.lt); have N9 := Lib.hid (N8.out.kept hb); have P9 := Lib.hid (P8.out.mono hb); have R9 := Lib.hid (R8.out.below hb R8.out.lt); have G9 := Lib.hid (G8.out.trans (Gw.of_below hb)); clear hb)
      | (go_at_call 82; (with_reducible refine (pfail p lk 0 3 w9 P9.out).mono ?_); rintro x w10 ⟨rfl, hP, hu⟩; rw [FL.out, FE.out] at hP; have P10 := Lib.hid hP; have R10 := Lib.hid (R9.out.upd hu NP.out.symm); have G10 := Lib.hid (G9.out.trans (Gw.upd hu)); clear hP hu)
      | (go_at_call 34; (with_reducible refine (perr p [] 3 w10 P10.out).mono ?_); rintro x w' ⟨rfl, rfl⟩)
      | ((with_reducible refine build_row (o := ⟨some 19, _, _, _, _, _⟩) rfl _ _ rfl (rvC 0 0 none 0 0) ?_ ?_); (focus (go_simp; exact rv_built0)))
      | ((with_reducible refine store_row (o := ⟨none, _, _, _, _, _⟩) rfl _ (.tmp 2) _ rfl w.heap.size (rvC 0 0 none 0 0) ?_ ?_ 78 _ R10.out ?_ ?_ ?_ ?_); (focus go_simp); (focus (first | (go_simp; done) | (go_simp; rfl))); (focus (exact LZS.out)); (focus rfl); (focus (exact rv_one _ _ _ _ _)); intro w11 hr hu; have R11 := Lib.hid hr; have P11 := Lib.hid (P10.out.putZ NP.out R10.out (nob_rv _ _ _ _ _) hu); have G11 := Lib.hid (G10.out.tail (Nat.le_refl _) hu); clear hr hu))
      exact bodyPost_ret (results_cell_row rfl _ _ w.heap.size 78 _ _ _ (by go_simp) R11.out Try.underlying78 rfl LZS.out) rfl ⟨_, _, rfl, LsN.nil _ _, P11.out, G11.out⟩
    · rw [if_pos rfl] at hZ2
      subst hZ2
      go_enter Try.func58, Try.ntmps58
      go_wp2_with (first
      | ((with_reducible refine alloc_row (o := ⟨some 2, _, _, _, _, _⟩) rfl _ rfl _ LZ.out ?_); intro w1 hr hb hz; have R1 := Lib.hid hr; have P1 := Lib.hid (H.out.mono hb); have G1 := Lib.hid (Gw.of_below (g := p) hb); have NP := Lib.hid (show p ≠ w.heap.size by omega); clear hr hb hz)
      | (go_at_call 80; (with_reducible refine (pnumR p 2147483648 l e w1 P1.out).mono ?_); rw [HQ1.out]; rintro x w2 ⟨rfl, hP, hu⟩; have P2 := Lib.hid hP; have R2 := Lib.hid (R1.out.upd hu NP.out.symm); have G2 := Lib.hid (G1.out.trans (Gw.upd hu)); clear hP hu)
      | (go_at_call 80; (with_reducible refine (pnumR p 2147483648 l1 e1 w2 P2.out).mono ?_); rw [HQ2.out]; rintro x w3 ⟨rfl, hP, hu⟩; have P3 := Lib.hid hP; have R3 := Lib.hid (R2.out.upd hu NP.out.symm); have G3 := Lib.hid (G2.out.trans (Gw.upd hu)); clear hP hu)
      | (go_at_call 116; (with_reducible refine (HRL.out w3 P3.out).mono ?_); rintro x w6 ⟨ad, m, cc, rfl, hlm, hN, hP, hu⟩; have LM := Lib.hid hlm; have N6 := Lib.hid (hN.base G3.out.size); have P6 := Lib.hid hP; have R6 := Lib.hid (R3.out.gw hu NP.out.symm); have G6 := Lib.hid (G3.out.trans hu); clear hlm hN hP hu)
      | ((with_reducible refine build_row (o := ⟨some 10, _, _, _, _, _⟩) rfl _ _ rfl (rvC (a : Int) (b : Int) ad m cc) ?_ ?_); (focus (go_simp; exact rv_built3 _ _ _ _ _)))
      | ((with_reducible refine alloc_row (o := ⟨some 3, _, _, _, _, _⟩) rfl _ rfl _ LZ.out ?_); intro w7 hr hb hz; have T7 := Lib.hid hr; have N7 := Lib.hid (N6.out.kept hb); have P7 := Lib.hid (P6.out.mono hb); have R7 := Lib.hid (R6.out.below hb R6.out.lt); have G7 := Lib.hid (G6.out.trans (Gw.of_below hb)); have PT := Lib.hid (Nat.ne_of_lt P6.out.lt); have RT := Lib.hid (Nat.ne_of_lt R6.out.lt); clear hr hb hz)
      | ((with_reducible refine store_row (o := ⟨none, _, _, _, _, _⟩) rfl _ (.tmp 3) _ rfl w6.heap.size (rvC (a : Int) (b : Int) ad m cc) ?_ ?_ 78 _ T7.out ?_ ?_ ?_ ?_); (focus go_simp); (focus (first | (go_simp; done) | (go_simp; rfl))); (focus (exact LZS.out)); (focus rfl); (focus (exact rv_one _ _ _ _ _)); intro w8 hr hu; have T8 := Lib.hid hr; have N8 := Lib.hid (N7.out.upd hu (N7.out.own_neZ T7.out (by decide))); have P8 := Lib.hid (P7.out.putZ PT.out T7.out (nob_rv _ _ _ _ _) hu); have R8 := Lib.hid (R7.out.upd hu RT.out); have G8 := Lib.hid (G7.out.tail G6.out.size hu); have V8 := Lib.hid (show RvV w8 (.agg (rvC (a : Int) (b : Int) ad m cc).toArray) ⟨(a : Int), (b : Int), LL⟩ from ⟨ad, m, cc, rfl, (int_out (N8.out.lso intOk) LM.out HFIT.out).1, SIA.out, SIB.out⟩); clear hr hu)
      | ((with_reducible refine load_row (o := ⟨some 11, _, _, _, _, _⟩) rfl _ _ rfl w6.heap.size ?_ _ (rvC (a : Int) (b : Int) ad m cc) _ T8.out Try.underlying78 rfl ?_ ?_); (focus go_simp); (focus (exact LZS.out)))
      | (go_at_call 68; (with_reducible refine (HCK.out w8 _ V8.out).mono ?_); rintro x w9 ⟨rfl, hb⟩; have T9 := Lib.hid (T8.out.below hb T8.out.lt); have N9 := Lib.hid (N8.out.kept hb); have P9 := Lib.hid (P8.out.mono hb); have R9 := Lib.hid (R8.out.below hb R8.out.lt); have G9 := Lib.hid (G8.out.trans (Gw.of_below hb)); clear hb)
      | (go_at_call 34; (with_reducible refine (perr p lk 0 w9 P9.out).mono ?_); rintro x w' ⟨rfl, rfl⟩)
      | ((with_reducible refine load_row (o := ⟨some 20, _, _, _, _, _⟩) rfl _ _ rfl w6.heap.size ?_ _ (rvC (a : Int) (b : Int) ad m cc) _ T9.out Try.underlying78 rfl ?_ ?_); (focus go_simp); (focus (exact LZS.out)))
      | ((with_reducible refine store_row (o := ⟨none, _, _, _, _, _⟩) rfl _ (.tmp 2) _ rfl w.heap.size (rvC (a : Int) (b : Int) ad m cc) ?_ ?_ 78 _ R9.out ?_ ?_ ?_ ?_); (focus go_simp); (focus (first | (go_simp; done) | (go_simp; rfl))); (focus (exact LZS.out)); (focus rfl); (focus (exact rv_one _ _ _ _ _)); intro w11 hr hu; have R11 := Lib.hid hr; have P11 := Lib.hid (P9.out.putZ NP.out R9.out (nob_rv _ _ _ _ _) hu); have N11 := Lib.hid (N9.out.upd hu (N9.out.own_neZ R9.out (by decide))); have G11 := Lib.hid (G9.out.tail (Nat.le_refl _) hu); clear hr hu))
      exact bodyPost_ret (results_cell_row rfl _ _ w.heap.size 78 _ _ _ (by go_simp) R11.out Try.underlying78 rfl LZS.out) rfl ⟨ad, cc, (by rw [LM.out]), (by rw [LM.out]; exact N11.out), P11.out, G11.out⟩
  · have hq : (ek == 0) = false := by simpa using hek
    have hq2 : (ek != 0) = true := by simpa using hek
    have hz2 : Z = (rvZ, lk, ek) := by rw [← hZ2]; unfold endRv; dsimp only; rw [if_neg hek]
    subst hz2
    have FL := Lib.hid (show failL lk ek 3 = lk by unfold failL; rw [if_pos (Or.inl hek)])
    have FE := Lib.hid (show failE ek 3 = ek by unfold failE; rw [if_pos (Or.inl hek)])
    clear hZ2 hLL hck
    cases ck
    · skip
      go_enter Try.func58, Try.ntmps58
      go_wp2_with (first
      | ((with_reducible refine alloc_row (o := ⟨some 2, _, _, _, _, _⟩) rfl _ rfl _ LZ.out ?_); intro w1 hr hb hz; have R1 := Lib.hid hr; have P1 := Lib.hid (H.out.mono hb); have G1 := Lib.hid (Gw.of_below (g := p) hb); have NP := Lib.hid (show p ≠ w.heap.size by omega); clear hr hb hz)
      | (go_at_call 80; (with_reducible refine (pnumR p 2147483648 l e w1 P1.out).mono ?_); rw [HQ1.out]; rintro x w2 ⟨rfl, hP, hu⟩; have P2 := Lib.hid hP; have R2 := Lib.hid (R1.out.upd hu NP.out.symm); have G2 := Lib.hid (G1.out.trans (Gw.upd hu)); clear hP hu)
      | (go_at_call 80; (with_reducible refine (pnumR p 2147483648 l1 e1 w2 P2.out).mono ?_); rw [HQ2.out]; rintro x w3 ⟨rfl, hP, hu⟩; have P3 := Lib.hid hP; have R3 := Lib.hid (R2.out.upd hu NP.out.symm); have G3 := Lib.hid (G2.out.trans (Gw.upd hu)); clear hP hu)
      | (go_at_call 116; (with_reducible refine (HRL.out w3 P3.out).mono ?_); rintro x w6 ⟨ad, m, cc, rfl, hlm, hN, hP, hu⟩; have LM := Lib.hid hlm; have N6 := Lib.hid (hN.base G3.out.size); have P6 := Lib.hid hP; have R6 := Lib.hid (R3.out.gw hu NP.out.symm); have G6 := Lib.hid (G3.out.trans hu); clear hlm hN hP hu)
      | ((with_reducible refine build_row (o := ⟨some 10, _, _, _, _, _⟩) rfl _ _ rfl (rvC (a : Int) (b : Int) ad m cc) ?_ ?_); (focus (go_simp; exact rv_built3 _ _ _ _ _)))
      | ((with_reducible refine alloc_row (o := ⟨some 3, _, _, _, _, _⟩) rfl _ rfl _ LZ.out ?_); intro w7 hr hb hz; have T7 := Lib.hid hr; have N7 := Lib.hid (N6.out.kept hb); have P7 := Lib.hid (P6.out.mono hb); have R7 := Lib.hid (R6.out.below hb R6.out.lt); have G7 := Lib.hid (G6.out.trans (Gw.of_below hb)); have PT := Lib.hid (Nat.ne_of_lt P6.out.lt); have RT := Lib.hid (Nat.ne_of_lt R6.out.lt); clear hr hb hz)
      | ((with_reducible refine store_row (o := ⟨none, _, _, _, _, _⟩) rfl _ (.tmp 3) _ rfl w6.heap.size (rvC (a : Int) (b : Int) ad m cc) ?_ ?_ 78 _ T7.out ?_ ?_ ?_ ?_); (focus go_simp); (focus (first | (go_simp; done) | (go_simp; rfl))); (focus (exact LZS.out)); (focus rfl); (focus (exact rv_one _ _ _ _ _)); intro w8 hr hu; have T8 := Lib.hid hr; have N8 := Lib.hid (N7.out.upd hu (N7.out.own_neZ T7.out (by decide))); have P8 := Lib.hid (P7.out.putZ PT.out T7.out (nob_rv _ _ _ _ _) hu); have R8 := Lib.hid (R7.out.upd hu RT.out); have G8 := Lib.hid (G7.out.tail G6.out.size hu); have V8 := Lib.hid (show RvV w8 (.agg (rvC (a : Int) (b : Int) ad m cc).toArray) ⟨(a : Int), (b : Int), LL⟩ from ⟨ad, m, cc, rfl, (int_out (N8.out.lso intOk) LM.out HFIT.out).1, SIA.out, SIB.out⟩); clear hr hu)
      | ((with_reducible refine load_row (o := ⟨some 11, _, _, _, _, _⟩) rfl _ _ rfl w6.heap.size ?_ _ (rvC (a : Int) (b : Int) ad m cc) _ T8.out Try.underlying78 rfl ?_ ?_); (focus go_simp); (focus (exact LZS.out)))
      | (go_at_call 68; (with_reducible refine (HCK.out w8 _ V8.out).mono ?_); rintro x w9 ⟨rfl, hb⟩; have T9 := Lib.hid (T8.out.below hb T8.out.lt); have N9 := Lib.hid (N8.out.kept hb); have P9 := Lib.hid (P8.out.mono hb); have R9 := Lib.hid (R8.out.below hb R8.out.lt); have G9 := Lib.hid (G8.out.trans (Gw.of_below hb)); clear hb)
      | (go_at_call 82; (with_reducible refine (pfail p lk ek 3 w9 P9.out).mono ?_); rintro x w10 ⟨rfl, hP, hu⟩; rw [FL.out, FE.out] at hP; have P10 := Lib.hid hP; have R10 := Lib.hid (R9.out.upd hu NP.out.symm); have G10 := Lib.hid (G9.out.trans (Gw.upd hu)); clear hP hu)
      | (go_at_call 34; (with_reducible refine (perr p lk ek w10 P10.out).mono ?_); rintro x w' ⟨rfl, rfl⟩)
      | ((with_reducible refine build_row (o := ⟨some 19, _, _, _, _, _⟩) rfl _ _ rfl (rvC 0 0 none 0 0) ?_ ?_); (focus (go_simp; exact rv_built0)))
      | ((with_reducible refine store_row (o := ⟨none, _, _, _, _, _⟩) rfl _ (.tmp 2) _ rfl w.heap.size (rvC 0 0 none 0 0) ?_ ?_ 78 _ R10.out ?_ ?_ ?_ ?_); (focus go_simp); (focus (first | (go_simp; done) | (go_simp; rfl))); (focus (exact LZS.out)); (focus rfl); (focus (exact rv_one _ _ _ _ _)); intro w11 hr hu; have R11 := Lib.hid hr; have P11 := Lib.hid (P10.out.putZ NP.out R10.out (nob_rv _ _ _ _ _) hu); have G11 := Lib.hid (G10.out.tail (Nat.le_refl _) hu); clear hr hu))
      exact bodyPost_ret (results_cell_row rfl _ _ w.heap.size 78 _ _ _ (by go_simp) R11.out Try.underlying78 rfl LZS.out) rfl ⟨_, _, rfl, LsN.nil _ _, P11.out, G11.out⟩
    · skip
      go_enter Try.func58, Try.ntmps58
      go_wp2_with (first
      | ((with_reducible refine alloc_row (o := ⟨some 2, _, _, _, _, _⟩) rfl _ rfl _ LZ.out ?_); intro w1 hr hb hz; have R1 := Lib.hid hr; have P1 := Lib.hid (H.out.mono hb); have G1 := Lib.hid (Gw.of_below (g := p) hb); have NP := Lib.hid (show p ≠ w.heap.size by omega); clear hr hb hz)
      | (go_at_call 80; (with_reducible refine (pnumR p 2147483648 l e w1 P1.out).mono ?_); rw [HQ1.out]; rintro x w2 ⟨rfl, hP, hu⟩; have P2 := Lib.hid hP; have R2 := Lib.hid (R1.out.upd hu NP.out.symm); have G2 := Lib.hid (G1.out.trans (Gw.upd hu)); clear hP hu)
      | (go_at_call 80; (with_reducible refine (pnumR p 2147483648 l1 e1 w2 P2.out).mono ?_); rw [HQ2.out]; rintro x w3 ⟨rfl, hP, hu⟩; have P3 := Lib.hid hP; have R3 := Lib.hid (R2.out.upd hu NP.out.symm); have G3 := Lib.hid (G2.out.trans (Gw.upd hu)); clear hP hu)
      | (go_at_call 116; (with_reducible refine (HRL.out w3 P3.out).mono ?_); rintro x w6 ⟨ad, m, cc, rfl, hlm, hN, hP, hu⟩; have LM := Lib.hid hlm; have N6 := Lib.hid (hN.base G3.out.size); have P6 := Lib.hid hP; have R6 := Lib.hid (R3.out.gw hu NP.out.symm); have G6 := Lib.hid (G3.out.trans hu); clear hlm hN hP hu)
      | ((with_reducible refine build_row (o := ⟨some 10, _, _, _, _, _⟩) rfl _ _ rfl (rvC (a : Int) (b : Int) ad m cc) ?_ ?_); (focus (go_simp; exact rv_built3 _ _ _ _ _)))
      | ((with_reducible refine alloc_row (o := ⟨some 3, _, _, _, _, _⟩) rfl _ rfl _ LZ.out ?_); intro w7 hr hb hz; have T7 := Lib.hid hr; have N7 := Lib.hid (N6.out.kept hb); have P7 := Lib.hid (P6.out.mono hb); have R7 := Lib.hid (R6.out.below hb R6.out.lt); have G7 := Lib.hid (G6.out.trans (Gw.of_below hb)); have PT := Lib.hid (Nat.ne_of_lt P6.out.lt); have RT := Lib.hid (Nat.ne_of_lt R6.out.lt); clear hr hb hz)
      | ((with_reducible refine store_row (o := ⟨none, _, _, _, _, _⟩) rfl _ (.tmp 3) _ rfl w6.heap.size (rvC (a : Int) (b : Int) ad m cc) ?_ ?_ 78 _ T7.out ?_ ?_ ?_ ?_); (focus go_simp); (focus (first | (go_simp; done) | (go_simp; rfl))); (focus (exact LZS.out)); (focus rfl); (focus (exact rv_one _ _ _ _ _)); intro w8 hr hu; have T8 := Lib.hid hr; have N8 := Lib.hid (N7.out.upd hu (N7.out.own_neZ T7.out (by decide))); have P8 := Lib.hid (P7.out.putZ PT.out T7.out (nob_rv _ _ _ _ _) hu); have R8 := Lib.hid (R7.out.upd hu RT.out); have G8 := Lib.hid (G7.out.tail G6.out.size hu); have V8 := Lib.hid (show RvV w8 (.agg (rvC (a : Int) (b : Int) ad m cc).toArray) ⟨(a : Int), (b : Int), LL⟩ from ⟨ad, m, cc, rfl, (int_out (N8.out.lso intOk) LM.out HFIT.out).1, SIA.out, SIB.out⟩); clear hr hu)
      | ((with_reducible refine load_row (o := ⟨some 11, _, _, _, _, _⟩) rfl _ _ rfl w6.heap.size ?_ _ (rvC (a : Int) (b : Int) ad m cc) _ T8.out Try.underlying78 rfl ?_ ?_); (focus go_simp); (focus (exact LZS.out)))
      | (go_at_call 68; (with_reducible refine (HCK.out w8 _ V8.out).mono ?_); rintro x w9 ⟨rfl, hb⟩; have T9 := Lib.hid (T8.out.below hb T8.out.lt); have N9 := Lib.hid (N8.out.kept hb); have P9 := Lib.hid (P8.out.mono hb); have R9 := Lib.hid (R8.out.below hb R8.out.lt); have G9 := Lib.hid (G8.out.trans (Gw.of_below hb)); clear hb)
      | (go_at_call 34; (with_reducible refine (perr p lk ek w9 P9.out).mono ?_); rintro x w' ⟨rfl, rfl⟩)
      | ((with_reducible refine build_row (o := ⟨some 19, _, _, _, _, _⟩) rfl _ _ rfl (rvC 0 0 none 0 0) ?_ ?_); (focus (go_simp; exact rv_built0)))
      | ((with_reducible refine store_row (o := ⟨none, _, _, _, _, _⟩) rfl _ (.tmp 2) _ rfl w.heap.size (rvC 0 0 none 0 0) ?_ ?_ 78 _ R9.out ?_ ?_ ?_ ?_); (focus go_simp); (focus (first | (go_simp; done) | (go_simp; rfl))); (focus (exact LZS.out)); (focus rfl); (focus (exact rv_one _ _ _ _ _)); intro w11 hr hu; have R11 := Lib.hid hr; have P11 := Lib.hid (P9.out.putZ NP.out R9.out (nob_rv _ _ _ _ _) hu); have G11 := Lib.hid (G9.out.tail (Nat.le_refl _) hu); clear hr hu))
      exact bodyPost_ret (results_cell_row rfl _ _ w.heap.size 78 _ _ _ (by go_simp) R11.out Try.underlying78 rfl LZS.out) rfl ⟨_, _, rfl, LsN.nil _ _, P11.out, G11.out⟩
set_option maxRecDepth 100000 in
set_option maxHeartbeats 16000000 in
theorem zread (p : Nat) (l : List UInt8) (e : Int) (w : World) (h : RR w p l e) :
    Calls Try.prog 59 #[.pointer (some ⟨p, 0, none⟩)] w fun x w' => ∃ a c, x = .returned (.agg (rvC (readRv l e).1.ep (readRv l e).1.nx a (readRv l e).1.ids.length c).toArray) ∧ LsN intE w' w.heap.size (.slice a (readRv l e).1.ids.length c) (readRv l e).1.ids ∧ RR w' p (readRv l e).2.1 (readRv l e).2.2 ∧ Gw p w w' := by
  have H := Lib.hid h
  have LZS := Lib.hid rv_size
  have LZ := Lib.hid rv_zero
  have hpl := h.lt
  have hm1 := rv_num_le 2147483648 (by decide) l e
  obtain ⟨a, l1, e1, hq1⟩ : ∃ x y z, numR 2147483648 l e = (x, y, z) := ⟨_, _, _, rfl⟩
  rw [hq1] at hm1
  dsimp only at hm1
  have HQ1 := Lib.hid hq1
  have hm2 := rv_num_le 2147483648 (by decide) l1 e1
  obtain ⟨b, l2, e2, hq2⟩ : ∃ x y z, numR 2147483648 l1 e1 = (x, y, z) := ⟨_, _, _, rfl⟩
  rw [hq2] at hm2
  dsimp only at hm2
  have HQ2 := Lib.hid hq2
  have hm3 := rv_num_le 16 (by decide) l2 e2
  obtain ⟨n, l3, e3, hq3⟩ : ∃ x y z, numR 16 l2 e2 = (x, y, z) := ⟨_, _, _, rfl⟩
  rw [hq3] at hm3
  dsimp only at hm3
  have HQ3 := Lib.hid hq3
  obtain ⟨Z, hZ⟩ : ∃ Z, readRv l e = Z := ⟨_, rfl⟩
  rw [hZ]
  have HZ := Lib.hid (show endRv ⟨(a : Int), (b : Int), (rdIs n l3 e3).1⟩ (rdIs n l3 e3).2 = Z by rw [← hZ]; unfold readRv; simp only [hq1, hq2, hq3])
  have STK := Lib.hid (rdIs_stuck l3 e3)
  have hn16 : n ≤ 16 := by omega
  clear h hZ hq1 hq2 hq3 hm3
  go_enter Try.func59, Try.ntmps59
  go_wp2_with (first
    | ((with_reducible refine alloc_row (o := ⟨some 2, _, _, _, _, _⟩) rfl _ rfl _ LZ.out ?_); intro w1 hr hb hz; have R1 := Lib.hid hr; have P1 := Lib.hid (H.out.mono hb); have G1 := Lib.hid (Gw.of_below (g := p) hb); have NP := Lib.hid (show p ≠ w.heap.size by omega); clear hr hb hz)
    | (go_at_call 83; (with_reducible refine (rnumR p 2147483648 l e w1 P1.out).mono ?_); rw [HQ1.out]; rintro x w2 ⟨rfl, hP, hu⟩; have P2 := Lib.hid hP; have R2 := Lib.hid (R1.out.upd hu NP.out.symm); have G2 := Lib.hid (G1.out.trans (Gw.upd hu)); clear hP hu)
    | ((with_reducible refine build_row (o := ⟨some 8, _, _, _, _, _⟩) rfl _ _ rfl (rvC (a : Int) 0 none 0 0) ?_ ?_); (focus (go_simp; exact zbuilt1 _)))
    | ((with_reducible refine alloc_row (o := ⟨some 3, _, _, _, _, _⟩) rfl _ rfl _ LZ.out ?_); intro w3 hr hb hz; have T3 := Lib.hid hr; have Y3 := Lib.hid (show ZS w w3 p l1 e1 w.heap.size w2.heap.size (rvC 0 0 none 0 0) (rvC 0 0 none 0 0) (.slice none 0 0) [] from ⟨P2.out.mono hb, R2.out.below hb R2.out.lt, hr, LsN.nil _ _, G2.out.trans (Gw.of_below hb), NP.out, Nat.ne_of_lt P2.out.lt, Nat.ne_of_lt R2.out.lt, Nat.le_refl _, G2.out.size⟩); clear hr hb hz)
    | ((with_reducible refine store_row (o := ⟨none, _, _, _, _, _⟩) rfl _ (.tmp 3) _ rfl w2.heap.size (rvC (a : Int) 0 none 0 0) ?_ ?_ 78 _ T3.out ?_ ?_ ?_ ?_); (focus go_simp); (focus (first | (go_simp; done) | (go_simp; rfl))); (focus (exact LZS.out)); (focus rfl); (focus (exact rv_one _ _ _ _ _)); intro w4 hr hu; have Y4 := Lib.hid (Y3.out.setT (nob_rv _ _ _ _ _) hr hu); clear hr hu)
    | (go_at_call 83; (with_reducible refine (rnumR p 2147483648 l1 e1 w4 Y4.out.rr).mono ?_); rw [HQ2.out]; rintro x w5 ⟨rfl, hP, hu⟩; have Y5 := Lib.hid (Y4.out.rd hP hu); clear hP hu)
    | ((with_reducible refine store_cell (o := ⟨none, _, _, _, _, _⟩) rfl _ (.tmp 11) _ rfl w2.heap.size 1 (.int .i64 (b : Int)) ?_ ?_ rfl rfl 78 _ Y5.out.rT ?_ ?_ ?_); (focus go_simp); (focus (go_simp; first | done | rfl)); (focus (kernel_rfl)); (focus (show 1 < 3; decide)); intro w6 hr hu; have Y6 := Lib.hid (Y5.out.setT (nob_rv _ _ _ _ _) (show Row w6 w2.heap.size 78 (rvC (a : Int) (b : Int) none 0 0) from hr) hu); clear hr hu)
    | (go_at_call 83; (with_reducible refine (rnumR p 16 l2 e2 w6 Y6.out.rr).mono ?_); rw [HQ3.out]; rintro x w11 ⟨rfl, hP, hu⟩; have Y11 := Lib.hid (Y6.out.rd hP hu); clear hP hu))
  go_loopw [5] (fun i wr => ∃ (k : Nat) (Lk : List Int) (lk : List UInt8) (ek : Int) (ad : Option Addr) (m cc : Nat), i = .int .i64 (k : Int) ∧ k ≤ n ∧ Lk.length = m ∧ Hid (rdIs k l3 e3 = (Lk, lk, ek)) ∧ Hid (ZS w wr p lk ek w.heap.size w2.heap.size (rvC 0 0 none 0 0) (rvC (a : Int) (b : Int) ad m cc) (.slice ad m cc) Lk)) (fun i _ => n - (intOf i).toNat)
  case atStart => exact ⟨0, [], l3, e3, none, 0, 0, rfl, Nat.zero_le _, rfl, Lib.hid rfl, Y11⟩
  case round =>
    obtain ⟨k, Lk, lk, ek, ad, m, cc, rfl, hk, hlm, HK, Y⟩ := hrel
    have HLM := Lib.hid hlm
    have hmk : m ≤ 16 := by have := rdIs_len l3 e3 k; rw [HK.out] at this; dsimp only at this; omega
    clear hlm
    by_cases hek : ek = 0
    · subst hek
      by_cases hlt : k < n
      · obtain ⟨s, lx, ex, hrd⟩ : ∃ x y z, numR 2147483648 lk 0 = (x, y, z) := ⟨_, _, _, rfl⟩
        have hft := rdIs_fit l3 e3 (k + 1)
        have HK2 := Lib.hid (show rdIs (k + 1) l3 e3 = (Lk ++ [(s : Int)], lx, ex) by simp only [rdIs]; rw [HK.out]; dsimp only; rw [hrd])
        rw [HK2.out] at hft
        have FT := Lib.hid hft
        have FS := Lib.hid (hft (s : Int) (by simp))
        have K1 := Lib.hid hrd
        have g2 : (k : Int) < (n : Int) := by omega
        clear hrd hft
        go_wp2_with (first
          | (go_at_call 35; (with_reducible refine (rerr p lk 0 wr Y.out.rr).mono ?_); rintro x w' ⟨rfl, rfl⟩))
        refine region_t (fun v => Row v w2.heap.size 78 (rvC (a : Int) (b : Int) ad m cc)) 7 (by kernel_rfl) (by kernel_rfl) (by kernel_rfl) ((Y.out.grow (Below.refl _ _).drew).rT) ?_
        obtain ⟨wd, hwd⟩ : ∃ wd, wr.drew = wd := ⟨_, rfl⟩
        have Y20 := Lib.hid (Y.out.grow (show Below wr.heap.size wr wd by rw [← hwd]; exact (Below.refl _ _).drew))
        rw [hwd]
        clear hwd
        (refine t_read 0 rfl (by kernel_rfl) (by kernel_rfl) (by kernel_rfl) (t_free rfl) ?_ ?_ ?_; rotate_left; (focus (intro v hv; go_simp; rfl)); go_simp)
        (refine t_read 1 rfl (by kernel_rfl) (by kernel_rfl) (by kernel_rfl) (t_free rfl) ?_ ?_ ?_; rotate_left; (focus (intro v hv; have q2 := hv.r3.2.2; go_simp; rfl)); go_simp)
        (refine t_read 2 rfl (by kernel_rfl) (by kernel_rfl) (by kernel_rfl) (t_free rfl) ?_ ?_ ?_; rotate_left; (focus (intro v hv; go_simp; rfl)); go_simp)
        (refine t_call 3 rfl (by kernel_rfl) rfl (t_free rfl) 83 ?_ ?_ ?_; rotate_left; (focus (go_simp; rfl)))
        refine (rnumR p 2147483648 lk 0 wd Y20.out.rr).mono ?_
        rw [K1.out]
        rintro x w21 ⟨rfl, hP, hu⟩
        have Y21 := Lib.hid (Y20.out.rd hP hu)
        clear hP hu
        refine ⟨_, rfl, Y21.out.rT, ?_⟩
        go_simp
        (refine t_list 4 rfl (by kernel_rfl) rfl ?_; intro K hK)
        refine bi1l rfl _ rfl (s : Int) (by first | (go_simp; done) | (go_simp; rfl)) FS.out ?_
        intro w22 hl hb hz
        have Q22 := Lib.hid hl
        have Y22 := Lib.hid (Y21.out.grow hb)
        clear hl hb hz
        refine hK _ _ Y22.out.rT ?_
        go_simp
        (refine t_list 5 rfl (by kernel_rfl) rfl ?_; intro K hK)
        refine append_lsn intOk intNb rfl _ _ rfl w.heap.size (.slice ad m cc) Lk (by first | (go_simp; done) | (go_simp; rfl)) Y22.out.ln _ 0 1 1 [(s : Int)] (by first | (go_simp; done) | (go_simp; rfl)) Q22.out (by decide) (by rw [HLM.out]; omega) Y22.out.gw.size ?_
        intro v23 w23 hN hb hg
        have Y23 := Lib.hid (Y22.out.app hN hb hg)
        obtain ⟨m5, hm5⟩ : ∃ q, (Lk ++ [(s : Int)]).length = q := ⟨_, rfl⟩
        obtain ⟨a23, c23, hv23, -, -⟩ := (hN.lso intOk).ls intOk FT.out
        rw [hm5] at hv23
        subst hv23
        have M5 := Lib.hid hm5
        clear hN hb hg hm5
        refine hK _ _ Y23.out.rT ?_
        go_simp
        (refine t_read 6 rfl (by kernel_rfl) (by kernel_rfl) (by kernel_rfl) (t_free rfl) ?_ ?_ ?_; rotate_left; (focus (intro v hv; go_simp; rfl)); go_simp)
        (refine t_last 7 rfl (by kernel_rfl) rfl (by kernel_rfl) (by kernel_rfl) ?_; intro K hK)
        refine store_cell rfl _ _ _ rfl w2.heap.size 2 (.slice a23 m5 c23) (by go_simp) (by go_simp) rfl rfl 78 _ Y23.out.rT (by kernel_rfl) (by show 2 < 3; decide) ?_
        intro w24 hr hu
        have Y24 := Lib.hid (Y23.out.setT (nob_rv _ _ _ _ _) (show Row w24 w2.heap.size 78 (rvC (a : Int) (b : Int) a23 m5 c23) from hr) hu)
        clear hr hu
        refine hK _ _ ?_
        go_simp
        go_wp2_with fail
        go_roundw
        case rel => exact ⟨k + 1, _, lx, ex, a23, m5, c23, vint (by omega), by omega, M5.out, HK2, Y24⟩
        case measure => simp [intOf]; omega
      · obtain rfl : n = k := by omega
        have hfit : ∀ s ∈ Lk, SI64 s := by have := rdIs_fit l3 e3 n; rw [HK.out] at this; exact this
        have hls := (int_out (Y.out.ln.lso intOk) HLM.out hfit).1.sl
        obtain ⟨ck, hck⟩ : ∃ x, Rv.ok ⟨(a : Int), (b : Int), Lk⟩ = x := ⟨_, rfl⟩
        have HC : Hid (Calls Try.prog 118 #[.agg (rvC (a : Int) (b : Int) ad m cc).toArray] wr fun x w' => x = .returned (.bool ck) ∧ Below wr.heap.size wr w') := Lib.hid (by rw [← hck]; exact zcheck (a : Int) (b : Int) ad m cc Lk wr hls)
        have hZ := HZ.out
        rw [HK.out] at hZ
        unfold endRv at hZ
        dsimp only at hZ
        rw [if_pos rfl, hck] at hZ
        clear hls hfit hck hm1 hm2
        cases ck
        · rw [if_neg (by decide)] at hZ
          subst hZ
          go_wp2_with (first
            | (go_at_call 35; (with_reducible refine (rerr p lk 0 wr Y.out.rr).mono ?_); rintro x w' ⟨rfl, rfl⟩)
            | ((with_reducible refine load_rowg (o := ⟨some 35, _, _, _, _, _⟩) 3 true 34 rfl _ _ rfl w2.heap.size _ (rvC (a : Int) (b : Int) ad m cc) _ Y.out.rT Try.underlying78 rfl ?_ ?_ ?_ ?_ ?_); (focus rfl); (focus go_simp); (focus go_simp); (focus (exact LZS.out)))
            | (go_at_call 118; (with_reducible refine HC.out.mono ?_); rintro x w40 ⟨rfl, hb⟩; have Y40 := Lib.hid (Y.out.grow hb); clear hb)
            | (go_at_call 85; (with_reducible refine (rfail p lk 0 3 w40 Y40.out.rr).mono ?_); rintro x w41 ⟨rfl, hP, hu⟩; have Y41 := Lib.hid (Y40.out.rd (show RR w41 p [] 3 from hP) hu); clear hP hu)
            | (go_at_call 35; (with_reducible refine (rerr p [] 3 w41 Y41.out.rr).mono ?_); rintro x w' ⟨rfl, rfl⟩)
            | ((with_reducible refine build_row (o := ⟨some 44, _, _, _, _, _⟩) rfl _ _ rfl (rvC 0 0 none 0 0) ?_ ?_); (focus (go_simp; exact rv_built0)))
            | ((with_reducible refine store_row (o := ⟨none, _, _, _, _, _⟩) rfl _ (.tmp 2) _ rfl w.heap.size (rvC 0 0 none 0 0) ?_ ?_ 78 _ Y41.out.r2 ?_ ?_ ?_ ?_); (focus go_simp); (focus (first | (go_simp; done) | (go_simp; rfl))); (focus (exact LZS.out)); (focus rfl); (focus (exact rv_one _ _ _ _ _)); intro w42 hr hu; have Y42 := Lib.hid (Y41.out.set2 (nob_rv _ _ _ _ _) hr hu); clear hr hu))
          exact bodyPost_ret (results_cell_row rfl _ _ w.heap.size 78 _ _ _ (by go_simp) Y42.out.r2 Try.underlying78 rfl LZS.out) rfl ⟨_, _, rfl, LsN.nil _ _, Y42.out.rr, Y42.out.gw⟩
        · rw [if_pos rfl] at hZ
          subst hZ
          go_wp2_with (first
            | (go_at_call 35; (with_reducible refine (rerr p lk 0 wr Y.out.rr).mono ?_); rintro x w' ⟨rfl, rfl⟩)
            | ((with_reducible refine load_rowg (o := ⟨some 35, _, _, _, _, _⟩) 3 true 34 rfl _ _ rfl w2.heap.size _ (rvC (a : Int) (b : Int) ad m cc) _ Y.out.rT Try.underlying78 rfl ?_ ?_ ?_ ?_ ?_); (focus rfl); (focus go_simp); (focus go_simp); (focus (exact LZS.out)))
            | (go_at_call 118; (with_reducible refine HC.out.mono ?_); rintro x w40 ⟨rfl, hb⟩; have Y40 := Lib.hid (Y.out.grow hb); clear hb)
            | (go_at_call 35; (with_reducible refine (rerr p lk 0 w40 Y40.out.rr).mono ?_); rintro x w' ⟨rfl, rfl⟩)
            | ((with_reducible refine load_row (o := ⟨some 45, _, _, _, _, _⟩) rfl _ _ rfl w2.heap.size ?_ _ (rvC (a : Int) (b : Int) ad m cc) _ Y40.out.rT Try.underlying78 rfl ?_ ?_); (focus go_simp); (focus (exact LZS.out)))
            | ((with_reducible refine store_row (o := ⟨none, _, _, _, _, _⟩) rfl _ (.tmp 2) _ rfl w.heap.size (rvC (a : Int) (b : Int) ad m cc) ?_ ?_ 78 _ Y40.out.r2 ?_ ?_ ?_ ?_); (focus go_simp); (focus (first | (go_simp; done) | (go_simp; rfl))); (focus (exact LZS.out)); (focus rfl); (focus (exact rv_one _ _ _ _ _)); intro w42 hr hu; have Y42 := Lib.hid (Y40.out.set2 (nob_rv _ _ _ _ _) hr hu); clear hr hu))
          exact bodyPost_ret (results_cell_row rfl _ _ w.heap.size 78 _ _ _ (by go_simp) Y42.out.r2 Try.underlying78 rfl LZS.out) rfl ⟨ad, cc, (by rw [HLM.out]), (by rw [HLM.out]; exact Y42.out.ln), Y42.out.rr, Y42.out.gw⟩
    · have hq : (ek == 0) = false := by simpa using hek
      have hq2 : (ek != 0) = true := by simpa using hek
      have hZ := HZ.out
      have hst : (rdIs n l3 e3).2 = (lk, ek) := by
        have h1 := STK.out k (by rw [HK.out]; exact hek) (n - k)
        rw [show k + (n - k) = n by omega, HK.out] at h1
        exact h1
      have hz2 : Z = (rvZ, lk, ek) := by
        rw [← hZ]; unfold endRv; rw [hst]; dsimp only; rw [if_neg hek]
      subst hz2
      clear hZ hst
      by_cases hlt : k < n
      · have g2 : (k : Int) < (n : Int) := by omega
        go_wp2_with (first
          | (go_at_call 35; (with_reducible refine (rerr p lk ek wr Y.out.rr).mono ?_); rintro x w' ⟨rfl, rfl⟩)
          | ((with_reducible refine build_row (o := ⟨some 44, _, _, _, _, _⟩) rfl _ _ rfl (rvC 0 0 none 0 0) ?_ ?_); (focus (go_simp; exact rv_built0)))
          | ((with_reducible refine store_row (o := ⟨none, _, _, _, _, _⟩) rfl _ (.tmp 2) _ rfl w.heap.size (rvC 0 0 none 0 0) ?_ ?_ 78 _ Y.out.r2 ?_ ?_ ?_ ?_); (focus go_simp); (focus (first | (go_simp; done) | (go_simp; rfl))); (focus (exact LZS.out)); (focus rfl); (focus (exact rv_one _ _ _ _ _)); intro w42 hr hu; have Y42 := Lib.hid (Y.out.set2 (nob_rv _ _ _ _ _) hr hu); clear hr hu))
        exact bodyPost_ret (results_cell_row rfl _ _ w.heap.size 78 _ _ _ (by go_simp) Y42.out.r2 Try.underlying78 rfl LZS.out) rfl ⟨_, _, rfl, LsN.nil _ _, Y42.out.rr, Y42.out.gw⟩
      · obtain rfl : n = k := by omega
        go_wp2_with (first
          | (go_at_call 35; (with_reducible refine (rerr p lk ek wr Y.out.rr).mono ?_); rintro x w' ⟨rfl, rfl⟩)
          | ((with_reducible refine build_row (o := ⟨some 44, _, _, _, _, _⟩) rfl _ _ rfl (rvC 0 0 none 0 0) ?_ ?_); (focus (go_simp; exact rv_built0)))
          | ((with_reducible refine store_row (o := ⟨none, _, _, _, _, _⟩) rfl _ (.tmp 2) _ rfl w.heap.size (rvC 0 0 none 0 0) ?_ ?_ 78 _ Y.out.r2 ?_ ?_ ?_ ?_); (focus go_simp); (focus (first | (go_simp; done) | (go_simp; rfl))); (focus (exact LZS.out)); (focus rfl); (focus (exact rv_one _ _ _ _ _)); intro w42 hr hu; have Y42 := Lib.hid (Y.out.set2 (nob_rv _ _ _ _ _) hr hu); clear hr hu))
        exact bodyPost_ret (results_cell_row rfl _ _ w.heap.size 78 _ _ _ (by go_simp) Y42.out.r2 Try.underlying78 rfl LZS.out) rfl ⟨_, _, rfl, LsN.nil _ _, Y42.out.rr, Y42.out.gw⟩
end Go.Proofs.Ytiopcojkdglapaa.W
