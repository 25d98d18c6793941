/- LAYER 19 (ledger): Read of the reference. -/
import Derived.Test.YtiopcojkdglapaaLdCa
import Derived.Test.YtiopcojkdglapaaLdC
import Derived.Test.YtiopcojkdglapaaLdX
import Derived.Test.YtiopcojkdglapaaLn
set_option linter.unusedSimpArgs false
set_option linter.unusedVariables false
namespace Go.Proofs.Ytiopcojkdglapaa.W
open Go Go.ChangeShapes Go.WideShapes Go.ChangeAt Go.RowKit
open Go.Proofs.Ytiopcojkdglapaa.P (enc dec)

theorem hdNb : hdE.Nb where
  z := by intro x hx; simp [Value.cells, B] at hx
  c := by intro s x hx; simp [B] at hx
  p := by decide
theorem nob_ld (q u h' nx : Int) (a : Option Addr) (n c : Nat) : NoB (ldC q u h' nx a n c) := by intro x hx; simp [B] at hx
theorem nob_hd (s : Hd) : NoB s.cells := hdNb.c s
theorem gw_below19 {p : Nat} {w w1 w2 : World} (h : Gw p w w1) (hb : Below w.heap.size w1 w2) : Gw p w w2 := ⟨hb.os.trans h.os, hb.tape.trans h.tape, hb.output.trans h.output, Nat.le_trans h.size hb.size, fun k hk hn => (hb.block k hk).trans (h.block k hk hn)⟩
theorem RP.put' {w w' : World} {p g : Nat} {t : TypeId} {l : List UInt8} {e : Int} {L : List Value} (h : RP w p l e) (hpg : p ≠ g) (hq : Row w g t L) (hnb : NoB L) (hu : Upd w w' g) : RP w' p l e := by
  obtain ⟨a, cap, hh, hr⟩ := h.ex
  exact ⟨⟨a, cap, by rw [hu.block p hpg]; exact hh, hr.upd' hu (hr.apart hq (fun x hx => hnb x (by simpa using hx)))⟩, h.small, h.hnone⟩
theorem RR.put' {w w' : World} {p g : Nat} {t : TypeId} {l : List UInt8} {e : Int} {L : List Value} (h : RR w p l e) (hpg : p ≠ g) (hq : Row w g t L) (hnb : NoB L) (hu : Upd w w' g) : RR w' p l e := by
  obtain ⟨a, cap, hh, hr⟩ := h.ex
  exact ⟨⟨a, cap, by rw [hu.block p hpg]; exact hh, hr.upd' hu (hr.apart hq (fun x hx => hnb x (by simpa using hx)))⟩, h.small, h.hnone⟩
/-- while a ledger is read: the reader, the result's row, the ledger's row, its list -/
structure YS (w0 w : World) (p : Nat) (l : List UInt8) (e : Int) (g2 gT : Nat) (C2 CT : List Value) (v : Value) (L : List Hd) : Prop where
  rr : RR w p l e
  r2 : Row w g2 50 C2
  rT : Row w gT 50 CT
  ln : LsN hdE w w0.heap.size v L
  gw : Gw p w0 w
  n2 : p ≠ g2
  nT : p ≠ gT
  n2T : g2 ≠ gT
  b2 : w0.heap.size ≤ g2
  bT : w0.heap.size ≤ gT
section
variable {w0 w w' : World} {p g2 gT : Nat} {l : List UInt8} {e : Int} {C2 CT : List Value} {v : Value} {L : List Hd}
theorem LsN.own_ne {E : El Hd} {base g : Nat} {t : TypeId} {C : List Value} (h : LsN E w base v L) (hr : Row w g t C) (ht : E.eT ≠ t) : v.ownBlock ≠ some g := by
  rcases h with ⟨rfl, -⟩ | ⟨b, cap, cur, rfl, -, hh, -⟩
  · simp [Value.ownBlock]
  · intro e
    have : b = g := by simpa [Value.ownBlock] using e
    subst this
    unfold Row at hr
    rw [hh] at hr
    simp at hr
    exact ht hr.2
theorem YS.rd (h : YS w0 w p l e g2 gT C2 CT v L) {l' : List UInt8} {e' : Int} (hP : RR w' p l' e') (hu : Upd w w' p) : YS w0 w' p l' e' g2 gT C2 CT v L :=
  ⟨hP, h.r2.upd hu h.n2.symm, h.rT.upd hu h.nT.symm, LsN.rr (by decide) hdNb h.ln h.rr (Gw.upd hu), h.gw.trans (Gw.upd hu), h.n2, h.nT, h.n2T, h.b2, h.bT⟩
theorem YS.grow (h : YS w0 w p l e g2 gT C2 CT v L) (hb : Below w.heap.size w w') : YS w0 w' p l e g2 gT C2 CT v L :=
  ⟨h.rr.mono hb, h.r2.below hb h.r2.lt, h.rT.below hb h.rT.lt, h.ln.kept hb, h.gw.trans (Gw.of_below hb), h.n2, h.nT, h.n2T, h.b2, h.bT⟩
theorem YS.setT (h : YS w0 w p l e g2 gT C2 CT v L) (hN : NoB CT) {CT' : List Value} (hr : Row w' gT 50 CT') (hu : Upd w w' gT) : YS w0 w' p l e g2 gT C2 CT' v L :=
  ⟨h.rr.put' h.nT h.rT hN hu, h.r2.upd hu h.n2T, hr, h.ln.upd hu (h.ln.own_ne h.rT (by decide)), h.gw.tail h.bT hu, h.n2, h.nT, h.n2T, h.b2, h.bT⟩
theorem YS.set2 (h : YS w0 w p l e g2 gT C2 CT v L) (hN : NoB C2) {C' : List Value} (hr : Row w' g2 50 C') (hu : Upd w w' g2) : YS w0 w' p l e g2 gT C' CT v L :=
  ⟨h.rr.put' h.n2 h.r2 hN hu, hr, h.rT.upd hu h.n2T.symm, h.ln.upd hu (h.ln.own_ne h.r2 (by decide)), h.gw.tail h.b2 hu, h.n2, h.nT, h.n2T, h.b2, h.bT⟩
/-- another row of the call's own is written -/
theorem YS.own (h : YS w0 w p l e g2 gT C2 CT v L) {g : Nat} {t : TypeId} {C : List Value} (hr : Row w g t C) (hN : NoB C) (hp : p ≠ g) (h2 : g2 ≠ g) (hT : gT ≠ g) (hv : v.ownBlock ≠ some g) (hb : w0.heap.size ≤ g) (hu : Upd w w' g) : YS w0 w' p l e g2 gT C2 CT v L :=
  ⟨h.rr.put' hp hr hN hu, h.r2.upd hu h2, h.rT.upd hu hT, h.ln.upd hu hv, h.gw.tail hb hu, h.n2, h.nT, h.n2T, h.b2, h.bT⟩
theorem YS.app (h : YS w0 w p l e g2 gT C2 CT v L) {v' : Value} {L' : List Hd} (hN : LsN hdE w' w0.heap.size v' L') (hb : Below w0.heap.size w w') (hg : w.grownBy w' v.ownBlock) : YS w0 w' p l e g2 gT C2 CT v' L' :=
  ⟨RR.ownL (by decide) hdNb h.rr h.ln hg, (hg.block g2 h.r2.lt (fun e => h.ln.own_ne h.r2 (by decide) e.symm)).trans h.r2, (hg.block gT h.rT.lt (fun e => h.ln.own_ne h.rT (by decide) e.symm)).trans h.rT, hN, gw_below19 h.gw hb, h.n2, h.nT, h.n2T, h.b2, h.bT⟩
end
theorem ybuilt1 (q : Int) : Try.prog.built 50 [(0, .int .i64 q)] = some (ldC q 0 0 0 none 0 0).toArray := by kernel_rfl
theorem ybuilt0 : Try.prog.built 50 [] = some (ldC 0 0 0 0 none 0 0).toArray := by kernel_rfl
theorem ybuiltH (q : Int) : Try.prog.built 52 [(0, .int .i64 q)] = some (Hd.cells ⟨q, 0, 0, 0, 0, ⟨#[]⟩⟩).toArray := by kernel_rfl
set_option maxRecDepth 100000 in
set_option maxHeartbeats 16000000 in
theorem yread (p : Nat) (l : List UInt8) (e : Int) (w : World) (h : RR w p l e) :
    Calls Try.prog 53 #[.pointer (some ⟨p, 0, none⟩)] w fun x w' => ∃ a c, x = .returned (.agg (ldC (readLd l e).1.q (readLd l e).1.u (readLd l e).1.h (readLd l e).1.n a (readLd l e).1.L.length c).toArray) ∧ LsN hdE w' w.heap.size (.slice a (readLd l e).1.L.length c) (readLd l e).1.L ∧ RR w' p (readLd l e).2.1 (readLd l e).2.2 ∧ Gw p w w' := by
  have H := Lib.hid h
  have LZS := Lib.hid ld_size
  have LZ := Lib.hid ld_zero
  have HSZ := Lib.hid hd_size
  have MZ := Lib.hid hd_zero
  have hpl := h.lt
  have hm1 := ld_num_le 1099511627776 (by decide) l e
  obtain ⟨a, l1, e1, hq1⟩ : ∃ x y z, numR 1099511627776 l e = (x, y, z) := ⟨_, _, _, rfl⟩
  rw [hq1] at hm1
  dsimp only at hm1
  have HQ1 := Lib.hid hq1
  have hm2 := ld_num_le 1099511627776 (by decide) l1 e1
  obtain ⟨b, l2, e2, hq2⟩ : ∃ x y z, numR 1099511627776 l1 e1 = (x, y, z) := ⟨_, _, _, rfl⟩
  rw [hq2] at hm2
  dsimp only at hm2
  have HQ2 := Lib.hid hq2
  have hm3 := ld_num_le 1099511627776 (by decide) l2 e2
  obtain ⟨c, l3, e3, hq3⟩ : ∃ x y z, numR 1099511627776 l2 e2 = (x, y, z) := ⟨_, _, _, rfl⟩
  rw [hq3] at hm3
  dsimp only at hm3
  have HQ3 := Lib.hid hq3
  have hm4 := ld_num_le 2147483648 (by decide) l3 e3
  obtain ⟨d, l4, e4, hq4⟩ : ∃ x y z, numR 2147483648 l3 e3 = (x, y, z) := ⟨_, _, _, rfl⟩
  rw [hq4] at hm4
  dsimp only at hm4
  have HQ4 := Lib.hid hq4
  have hm5 := ld_num_le 8 (by decide) l4 e4
  obtain ⟨n, l5, e5, hq5⟩ : ∃ x y z, numR 8 l4 e4 = (x, y, z) := ⟨_, _, _, rfl⟩
  rw [hq5] at hm5
  dsimp only at hm5
  have HQ5 := Lib.hid hq5
  obtain ⟨Z, hZ⟩ : ∃ Z, readLd l e = Z := ⟨_, rfl⟩
  rw [hZ]
  have HZ := Lib.hid (show endLd ⟨(a : Int), (b : Int), (c : Int), (d : Int), (rdHds n l5 e5).1⟩ (rdHds n l5 e5).2 = Z by rw [← hZ]; unfold readLd; simp only [hq1, hq2, hq3, hq4, hq5])
  have STK := Lib.hid (rdHds_stuck l5 e5)
  have hn8 : n ≤ 8 := by omega
  clear h hZ hq1 hq2 hq3 hq4 hq5 hm5
  go_enter Try.func53, Try.ntmps53
  go_wp2_with (first
    | ((with_reducible refine alloc_row (o := ⟨some 2, _, _, _, _, _⟩) rfl _ rfl _ LZ.out ?_); intro w1 hr hb hz; have R1 := Lib.hid hr; have P1 := Lib.hid (H.out.mono hb); have G1 := Lib.hid (Gw.of_below (g := p) hb); have NP := Lib.hid (show p ≠ w.heap.size by omega); clear hr hb hz)
    | (go_at_call 83; (with_reducible refine (rnumR p 1099511627776 l e w1 P1.out).mono ?_); rw [HQ1.out]; rintro x w2 ⟨rfl, hP, hu⟩; have P2 := Lib.hid hP; have R2 := Lib.hid (R1.out.upd hu NP.out.symm); have G2 := Lib.hid (G1.out.trans (Gw.upd hu)); clear hP hu)
    | ((with_reducible refine build_row (o := ⟨some 9, _, _, _, _, _⟩) rfl _ _ rfl (ldC (a : Int) 0 0 0 none 0 0) ?_ ?_); (focus (go_simp; exact ybuilt1 _)))
    | ((with_reducible refine alloc_row (o := ⟨some 3, _, _, _, _, _⟩) rfl _ rfl _ LZ.out ?_); intro w3 hr hb hz; have T3 := Lib.hid hr; have Y3 := Lib.hid (show YS w w3 p l1 e1 w.heap.size w2.heap.size (ldC 0 0 0 0 none 0 0) (ldC 0 0 0 0 none 0 0) (.slice none 0 0) [] from ⟨P2.out.mono hb, R2.out.below hb R2.out.lt, hr, LsN.nil _ _, G2.out.trans (Gw.of_below hb), NP.out, Nat.ne_of_lt P2.out.lt, Nat.ne_of_lt R2.out.lt, Nat.le_refl _, G2.out.size⟩); clear hr hb hz)
    | ((with_reducible refine store_row (o := ⟨none, _, _, _, _, _⟩) rfl _ (.tmp 3) _ rfl w2.heap.size (ldC (a : Int) 0 0 0 none 0 0) ?_ ?_ 50 _ T3.out ?_ ?_ ?_ ?_); (focus go_simp); (focus (first | (go_simp; done) | (go_simp; rfl))); (focus (exact LZS.out)); (focus rfl); (focus (exact ld_one _ _ _ _ _ _ _)); intro w4 hr hu; have Y4 := Lib.hid (Y3.out.setT (nob_ld _ _ _ _ _ _ _) hr hu); clear hr hu)
    | (go_at_call 83; (with_reducible refine (rnumR p 1099511627776 l1 e1 w4 Y4.out.rr).mono ?_); rw [HQ2.out]; rintro x w5 ⟨rfl, hP, hu⟩; have Y5 := Lib.hid (Y4.out.rd hP hu); clear hP hu)
    | ((with_reducible refine store_cell (o := ⟨none, _, _, _, _, _⟩) rfl _ (.tmp 12) _ rfl w2.heap.size 1 (.int .i64 (b : Int)) ?_ ?_ rfl rfl 50 _ Y5.out.rT ?_ ?_ ?_); (focus go_simp); (focus (go_simp; first | done | rfl)); (focus (kernel_rfl)); (focus (show 1 < 5; decide)); intro w6 hr hu; have Y6 := Lib.hid (Y5.out.setT (nob_ld _ _ _ _ _ _ _) (show Row w6 w2.heap.size 50 (ldC (a : Int) (b : Int) 0 0 none 0 0) from hr) hu); clear hr hu)
    | (go_at_call 83; (with_reducible refine (rnumR p 1099511627776 l2 e2 w6 Y6.out.rr).mono ?_); rw [HQ3.out]; rintro x w7 ⟨rfl, hP, hu⟩; have Y7 := Lib.hid (Y6.out.rd hP hu); clear hP hu)
    | ((with_reducible refine store_cell (o := ⟨none, _, _, _, _, _⟩) rfl _ (.tmp 15) _ rfl w2.heap.size 2 (.int .i64 (c : Int)) ?_ ?_ rfl rfl 50 _ Y7.out.rT ?_ ?_ ?_); (focus go_simp); (focus (go_simp; first | done | rfl)); (focus (kernel_rfl)); (focus (show 2 < 5; decide)); intro w8 hr hu; have Y8 := Lib.hid (Y7.out.setT (nob_ld _ _ _ _ _ _ _) (show Row w8 w2.heap.size 50 (ldC (a : Int) (b : Int) (c : Int) 0 none 0 0) from hr) hu); clear hr hu)
    | (go_at_call 83; (with_reducible refine (rnumR p 2147483648 l3 e3 w8 Y8.out.rr).mono ?_); rw [HQ4.out]; rintro x w9 ⟨rfl, hP, hu⟩; have Y9 := Lib.hid (Y8.out.rd hP hu); clear hP hu)
    | ((with_reducible refine store_cell (o := ⟨none, _, _, _, _, _⟩) rfl _ (.tmp 18) _ rfl w2.heap.size 3 (.int .i64 (d : Int)) ?_ ?_ rfl rfl 50 _ Y9.out.rT ?_ ?_ ?_); (focus go_simp); (focus (go_simp; first | done | rfl)); (focus (kernel_rfl)); (focus (show 3 < 5; decide)); intro w10 hr hu; have Y10 := Lib.hid (Y9.out.setT (nob_ld _ _ _ _ _ _ _) (show Row w10 w2.heap.size 50 (ldC (a : Int) (b : Int) (c : Int) (d : Int) none 0 0) from hr) hu); clear hr hu)
    | (go_at_call 83; (with_reducible refine (rnumR p 8 l4 e4 w10 Y10.out.rr).mono ?_); rw [HQ5.out]; rintro x w11 ⟨rfl, hP, hu⟩; have Y11 := Lib.hid (Y10.out.rd hP hu); clear hP hu))
  go_loopw [5] (fun i wr => ∃ (k : Nat) (Lk : List Hd) (lk : List UInt8) (ek : Int) (ad : Option Addr) (m cc : Nat), i = .int .i64 (k : Int) ∧ k ≤ n ∧ Lk.length = m ∧ Hid (rdHds k l5 e5 = (Lk, lk, ek)) ∧ Hid (YS w wr p lk ek w.heap.size w2.heap.size (ldC 0 0 0 0 none 0 0) (ldC (a : Int) (b : Int) (c : Int) (d : Int) ad m cc) (.slice ad m cc) Lk)) (fun i _ => n - (intOf i).toNat)
  case atStart => exact ⟨0, [], l5, e5, none, 0, 0, rfl, Nat.zero_le _, rfl, Lib.hid rfl, Y11⟩
  case round =>
    obtain ⟨k, Lk, lk, ek, ad, m, cc, rfl, hk, hlm, HK, Y⟩ := hrel
    have HLM := Lib.hid hlm
    have hmk : m ≤ 8 := by have := rdHds_len l5 e5 k; rw [HK.out] at this; dsimp only at this; omega
    clear hlm
    by_cases hek : ek = 0
    · subst hek
      by_cases hlt : k < n
      · obtain ⟨h1, m1, f1, hh1⟩ : ∃ x y z, numR 2147483648 lk 0 = (x, y, z) := ⟨_, _, _, rfl⟩
        obtain ⟨h2, m2, f2, hh2⟩ : ∃ x y z, numR 7 m1 f1 = (x, y, z) := ⟨_, _, _, rfl⟩
        obtain ⟨h3, m3, f3, hh3⟩ : ∃ x y z, numR 1099511627776 m2 f2 = (x, y, z) := ⟨_, _, _, rfl⟩
        obtain ⟨h4, m4, f4, hh4⟩ : ∃ x y z, numR 1099511627776 m3 f3 = (x, y, z) := ⟨_, _, _, rfl⟩
        obtain ⟨h5, m5, f5, hh5⟩ : ∃ x y z, numR 1099511627776 m4 f4 = (x, y, z) := ⟨_, _, _, rfl⟩
        obtain ⟨tx, m6, f6, hh6⟩ : ∃ x y z, textR 16 m5 f5 = (x, y, z) := ⟨_, _, _, rfl⟩
        have hrd : rdHd lk 0 = (⟨(h1 : Int), (h2 : Int), (h3 : Int), (h4 : Int), (h5 : Int), str tx⟩, m6, f6) := by unfold rdHd; simp only [hh1, hh2, hh3, hh4, hh5, hh6]
        have hft := rdHd_fit lk 0
        rw [hrd] at hft
        have HK2 := Lib.hid (show rdHds (k + 1) l5 e5 = (Lk ++ [⟨(h1 : Int), (h2 : Int), (h3 : Int), (h4 : Int), (h5 : Int), str tx⟩], m6, f6) by simp only [rdHds]; rw [HK.out]; dsimp only; rw [hrd])
        have FT := Lib.hid hft
        have K1 := Lib.hid hh1
        have K2 := Lib.hid hh2
        have K3 := Lib.hid hh3
        have K4 := Lib.hid hh4
        have K5 := Lib.hid hh5
        have K6 := Lib.hid hh6
        have g2 : (k : Int) < (n : Int) := by omega
        clear hh1 hh2 hh3 hh4 hh5 hh6 hrd hft
        go_wp2_with (first
          | (go_at_call 35; (with_reducible refine (rerr p lk 0 wr Y.out.rr).mono ?_); rintro x w' ⟨rfl, rfl⟩)
          | (go_at_call 83; (with_reducible refine (rnumR p 2147483648 lk 0 wr Y.out.rr).mono ?_); rw [K1.out]; rintro x w20 ⟨rfl, hP, hu⟩; have Y20 := Lib.hid (Y.out.rd hP hu); clear hP hu)
          | ((with_reducible refine build_row (o := ⟨some 33, _, _, _, _, _⟩) rfl _ _ rfl (Hd.cells ⟨(h1 : Int), 0, 0, 0, 0, ⟨#[]⟩⟩) ?_ ?_); (focus (go_simp; exact ybuiltH _)))
          | ((with_reducible refine alloc_row (o := ⟨some 6, _, _, _, _, _⟩) rfl _ rfl _ MZ.out ?_); intro w21 hr hb hz; have X21 := Lib.hid hr; have Y21 := Lib.hid (Y20.out.grow hb); have NX := Lib.hid (And.intro (Nat.ne_of_lt Y20.out.rr.lt) (And.intro (Nat.ne_of_lt Y20.out.r2.lt) (And.intro (Nat.ne_of_lt Y20.out.rT.lt) (And.intro (fun h => Nat.lt_irrefl _ (Y20.out.ln.lt _ h).2 : (Value.slice ad m cc).ownBlock ≠ some w20.heap.size) Y20.out.gw.size)))); clear hr hb hz)
          | ((with_reducible refine store_row (o := ⟨none, _, _, _, _, _⟩) rfl _ (.tmp 6) _ rfl w20.heap.size (Hd.cells ⟨(h1 : Int), 0, 0, 0, 0, ⟨#[]⟩⟩) ?_ ?_ 52 _ X21.out ?_ ?_ ?_ ?_); (focus go_simp); (focus (first | (go_simp; done) | (go_simp; rfl))); (focus (exact HSZ.out)); (focus rfl); (focus (exact hd_one _)); intro w22 hr hu; have Y22 := Lib.hid (Y21.out.own X21.out (nob_hd hdZ) (NX.out.1) (NX.out.2.1) (NX.out.2.2.1) (NX.out.2.2.2.1) (NX.out.2.2.2.2) hu); have X22 := Lib.hid (show Row w22 w20.heap.size 52 (Hd.cells ⟨(h1 : Int), 0, 0, 0, 0, ⟨#[]⟩⟩) from hr); clear hr hu)
          | (go_at_call 83; (with_reducible refine (rnumR p 7 m1 f1 w22 Y22.out.rr).mono ?_); rw [K2.out]; rintro x w23 ⟨rfl, hP, hu⟩; have Y23 := Lib.hid (Y22.out.rd hP hu); have X23 := Lib.hid (X22.out.upd hu (Ne.symm NX.out.1)); clear hP hu)
          | ((with_reducible refine store_cell (o := ⟨none, _, _, _, _, _⟩) rfl _ (.tmp 36) _ rfl w20.heap.size 1 (.int .i64 (h2 : Int)) ?_ ?_ rfl rfl 52 _ X23.out ?_ ?_ ?_); (focus go_simp); (focus (go_simp; first | done | rfl)); (focus (kernel_rfl)); (focus (show 1 < 6; decide)); intro w24 hr hu; have Y24 := Lib.hid (Y23.out.own X23.out (nob_hd ⟨(h1 : Int), 0, 0, 0, 0, ⟨#[]⟩⟩) (NX.out.1) (NX.out.2.1) (NX.out.2.2.1) (NX.out.2.2.2.1) (NX.out.2.2.2.2) hu); have X24 := Lib.hid (show Row w24 w20.heap.size 52 (Hd.cells ⟨(h1 : Int), (h2 : Int), 0, 0, 0, ⟨#[]⟩⟩) from hr); clear hr hu)
          | (go_at_call 83; (with_reducible refine (rnumR p 1099511627776 m2 f2 w24 Y24.out.rr).mono ?_); rw [K3.out]; rintro x w25 ⟨rfl, hP, hu⟩; have Y25 := Lib.hid (Y24.out.rd hP hu); have X25 := Lib.hid (X24.out.upd hu (Ne.symm NX.out.1)); clear hP hu)
          | ((with_reducible refine store_cell (o := ⟨none, _, _, _, _, _⟩) rfl _ (.tmp 39) _ rfl w20.heap.size 2 (.int .i64 (h3 : Int)) ?_ ?_ rfl rfl 52 _ X25.out ?_ ?_ ?_); (focus go_simp); (focus (go_simp; first | done | rfl)); (focus (kernel_rfl)); (focus (show 2 < 6; decide)); intro w26 hr hu; have Y26 := Lib.hid (Y25.out.own X25.out (nob_hd ⟨(h1 : Int), (h2 : Int), 0, 0, 0, ⟨#[]⟩⟩) (NX.out.1) (NX.out.2.1) (NX.out.2.2.1) (NX.out.2.2.2.1) (NX.out.2.2.2.2) hu); have X26 := Lib.hid (show Row w26 w20.heap.size 52 (Hd.cells ⟨(h1 : Int), (h2 : Int), (h3 : Int), 0, 0, ⟨#[]⟩⟩) from hr); clear hr hu)
          | (go_at_call 83; (with_reducible refine (rnumR p 1099511627776 m3 f3 w26 Y26.out.rr).mono ?_); rw [K4.out]; rintro x w27 ⟨rfl, hP, hu⟩; have Y27 := Lib.hid (Y26.out.rd hP hu); have X27 := Lib.hid (X26.out.upd hu (Ne.symm NX.out.1)); clear hP hu)
          | ((with_reducible refine store_cell (o := ⟨none, _, _, _, _, _⟩) rfl _ (.tmp 42) _ rfl w20.heap.size 3 (.int .i64 (h4 : Int)) ?_ ?_ rfl rfl 52 _ X27.out ?_ ?_ ?_); (focus go_simp); (focus (go_simp; first | done | rfl)); (focus (kernel_rfl)); (focus (show 3 < 6; decide)); intro w28 hr hu; have Y28 := Lib.hid (Y27.out.own X27.out (nob_hd ⟨(h1 : Int), (h2 : Int), (h3 : Int), 0, 0, ⟨#[]⟩⟩) (NX.out.1) (NX.out.2.1) (NX.out.2.2.1) (NX.out.2.2.2.1) (NX.out.2.2.2.2) hu); have X28 := Lib.hid (show Row w28 w20.heap.size 52 (Hd.cells ⟨(h1 : Int), (h2 : Int), (h3 : Int), (h4 : Int), 0, ⟨#[]⟩⟩) from hr); clear hr hu)
          | (go_at_call 83; (with_reducible refine (rnumR p 1099511627776 m4 f4 w28 Y28.out.rr).mono ?_); rw [K5.out]; rintro x w29 ⟨rfl, hP, hu⟩; have Y29 := Lib.hid (Y28.out.rd hP hu); have X29 := Lib.hid (X28.out.upd hu (Ne.symm NX.out.1)); clear hP hu)
          | ((with_reducible refine store_cell (o := ⟨none, _, _, _, _, _⟩) rfl _ (.tmp 45) _ rfl w20.heap.size 4 (.int .i64 (h5 : Int)) ?_ ?_ rfl rfl 52 _ X29.out ?_ ?_ ?_); (focus go_simp); (focus (go_simp; first | done | rfl)); (focus (kernel_rfl)); (focus (show 4 < 6; decide)); intro w30 hr hu; have Y30 := Lib.hid (Y29.out.own X29.out (nob_hd ⟨(h1 : Int), (h2 : Int), (h3 : Int), (h4 : Int), 0, ⟨#[]⟩⟩) (NX.out.1) (NX.out.2.1) (NX.out.2.2.1) (NX.out.2.2.2.1) (NX.out.2.2.2.2) hu); have X30 := Lib.hid (show Row w30 w20.heap.size 52 (Hd.cells ⟨(h1 : Int), (h2 : Int), (h3 : Int), (h4 : Int), (h5 : Int), ⟨#[]⟩⟩) from hr); clear hr hu)
          | (go_at_call 84; (with_reducible refine (rtextR p 16 m5 f5 w30 Y30.out.rr).mono ?_); rw [K6.out]; rintro x w31 ⟨rfl, hP, hu⟩; have Y31 := Lib.hid (Y30.out.rd hP hu); have X31 := Lib.hid (X30.out.upd hu (Ne.symm NX.out.1)); clear hP hu)
          | ((with_reducible refine store_cell (o := ⟨none, _, _, _, _, _⟩) rfl _ (.tmp 48) _ rfl w20.heap.size 5 (.string (str tx)) ?_ ?_ rfl rfl 52 _ X31.out ?_ ?_ ?_); (focus go_simp); (focus (go_simp; first | done | rfl)); (focus (kernel_rfl)); (focus (show 5 < 6; decide)); intro w32 hr hu; have Y32 := Lib.hid (Y31.out.own X31.out (nob_hd ⟨(h1 : Int), (h2 : Int), (h3 : Int), (h4 : Int), (h5 : Int), ⟨#[]⟩⟩) (NX.out.1) (NX.out.2.1) (NX.out.2.2.1) (NX.out.2.2.2.1) (NX.out.2.2.2.2) hu); have X32 := Lib.hid (show Row w32 w20.heap.size 52 (Hd.cells ⟨(h1 : Int), (h2 : Int), (h3 : Int), (h4 : Int), (h5 : Int), str tx⟩) from hr); clear hr hu; obtain ⟨c0, c1, c2, c3, c4⟩ := Y32.out.rT.l5; clear c0 c1 c2 c3)
          | ((with_reducible refine load_row (o := ⟨some 51, _, _, _, _, _⟩) rfl _ _ rfl w20.heap.size ?_ _ (Hd.cells ⟨(h1 : Int), (h2 : Int), (h3 : Int), (h4 : Int), (h5 : Int), str tx⟩) _ X32.out Try.underlying52 rfl ?_ ?_); (focus go_simp); (focus (exact HSZ.out)))
          | ((with_reducible refine build_ls hdOk hd_fill (o := ⟨some 52, _, _, _, _, _⟩) rfl _ rfl ⟨(h1 : Int), (h2 : Int), (h3 : Int), (h4 : Int), (h5 : Int), str tx⟩ ?_ ?_ (by decide) ?_); (focus (first | (go_simp; done) | (go_simp; rfl))); (focus (exact FT.out)); intro w33 hl hb hz; have Q33 := Lib.hid hl; have Y33 := Lib.hid (Y32.out.grow hb); clear hl hb hz c4)
          | (at_builtin; (with_reducible refine append_lsn hdOk hdNb rfl _ _ rfl w.heap.size (.slice ad m cc) Lk ?_ Y33.out.ln _ 0 1 1 [⟨(h1 : Int), (h2 : Int), (h3 : Int), (h4 : Int), (h5 : Int), str tx⟩] ?_ Q33.out (by decide) ?_ Y33.out.gw.size ?_); (focus (first | (go_simp; done) | (go_simp; rfl))); (focus (first | (go_simp; done) | (go_simp; rfl))); (focus (rw [HLM.out]; omega)); intro v34 w34 hN hb hg; have Y34 := Lib.hid (Y33.out.app hN hb hg); obtain ⟨a34, c34, rfl, -, -⟩ := (hN.lso hdOk).ls hdOk (fun x hx => by (have := rdHds_fit l5 e5 (k + 1)); rw [HK2.out] at this; exact this x hx); clear hN hb hg)
          | ((with_reducible refine store_cell (o := ⟨none, _, _, _, _, _⟩) rfl _ (.tmp 54) _ rfl w2.heap.size 4 (.slice a34 (Lk ++ [(⟨(h1 : Int), (h2 : Int), (h3 : Int), (h4 : Int), (h5 : Int), str tx⟩ : Hd)]).length c34) ?_ ?_ rfl rfl 50 _ Y34.out.rT ?_ ?_ ?_); (focus go_simp); (focus (go_simp; first | done | rfl)); (focus (kernel_rfl)); (focus (show 4 < 5; decide)); intro w35 hr hu; have Y35 := Lib.hid (Y34.out.setT (nob_ld _ _ _ _ _ _ _) (show Row w35 w2.heap.size 50 (ldC (a : Int) (b : Int) (c : Int) (d : Int) a34 (Lk ++ [(⟨(h1 : Int), (h2 : Int), (h3 : Int), (h4 : Int), (h5 : Int), str tx⟩ : Hd)]).length c34) from hr) hu); clear hr hu))
        go_roundw
        case rel => exact ⟨k + 1, _, m6, f6, a34, _, c34, vint (by omega), by omega, rfl, HK2, Y35⟩
        case measure => simp [intOf]; omega
      · obtain rfl : n = k := by omega
        have hfit : ∀ s ∈ Lk, s.fit := by have := rdHds_fit l5 e5 n; rw [HK.out] at this; exact this
        obtain ⟨a', c', hv, hls, -⟩ := (Y.out.ln.lso hdOk).ls hdOk hfit
        rw [HLM.out] at hls
        obtain ⟨rfl, rfl⟩ : ad = a' ∧ cc = c' := by injection hv with e1 e2 e3; exact ⟨e1, e3⟩
        obtain ⟨ck, hck⟩ : ∃ x, Ld.ok ⟨(a : Int), (b : Int), (c : Int), (d : Int), Lk⟩ = x := ⟨_, rfl⟩
        have HC : Hid (Calls Try.prog 42 #[.agg (ldC (a : Int) (b : Int) (c : Int) (d : Int) ad m cc).toArray] wr fun x w' => x = .returned (.bool ck) ∧ Below wr.heap.size wr w') := Lib.hid (by rw [← hck]; exact ycheck (a : Int) (b : Int) (c : Int) (d : Int) ad m cc Lk wr hls ⟨by omega, by omega⟩ ⟨by omega, by omega⟩ ⟨by omega, by omega⟩ ⟨by omega, by omega⟩)
        have hZ := HZ.out
        rw [HK.out] at hZ
        unfold endLd at hZ
        dsimp only at hZ
        rw [if_pos rfl, hck] at hZ
        clear hls hfit hck hv hm1 hm2 hm3 hm4
        cases ck
        · rw [if_neg (by decide)] at hZ
          subst hZ
          go_wp2_with (first
            | (go_at_call 35; (with_reducible refine (rerr p lk 0 wr Y.out.rr).mono ?_); rintro x w' ⟨rfl, rfl⟩)
            | ((with_reducible refine load_rowg (o := ⟨some 59, _, _, _, _, _⟩) 3 true 58 rfl _ _ rfl w2.heap.size _ (ldC (a : Int) (b : Int) (c : Int) (d : Int) ad m cc) _ Y.out.rT Try.underlying50 rfl ?_ ?_ ?_ ?_ ?_); (focus rfl); (focus (first | (go_simp; done) | (go_simp; rfl))); (focus (first | (go_simp; done) | (go_simp; rfl))); (focus (exact LZS.out)))
            | (go_at_call 42; (with_reducible refine HC.out.mono ?_); rintro x w40 ⟨rfl, hb⟩; have Y40 := Lib.hid (Y.out.grow hb); clear hb)
            | (go_at_call 85; (with_reducible refine (rfail p lk 0 3 w40 Y40.out.rr).mono ?_); rintro x w41 ⟨rfl, hP, hu⟩; have Y41 := Lib.hid (Y40.out.rd (show RR w41 p [] 3 from hP) hu); clear hP hu)
            | (go_at_call 35; (with_reducible refine (rerr p [] 3 w41 Y41.out.rr).mono ?_); rintro x w' ⟨rfl, rfl⟩)
            | ((with_reducible refine build_row (o := ⟨some 68, _, _, _, _, _⟩) rfl _ _ rfl (ldC 0 0 0 0 none 0 0) ?_ ?_); (focus (go_simp; exact ybuilt0)))
            | ((with_reducible refine store_row (o := ⟨none, _, _, _, _, _⟩) rfl _ (.tmp 2) _ rfl w.heap.size (ldC 0 0 0 0 none 0 0) ?_ ?_ 50 _ Y41.out.r2 ?_ ?_ ?_ ?_); (focus go_simp); (focus (first | (go_simp; done) | (go_simp; rfl))); (focus (exact LZS.out)); (focus rfl); (focus (exact ld_one _ _ _ _ _ _ _)); intro w42 hr hu; have Y42 := Lib.hid (Y41.out.set2 (nob_ld _ _ _ _ _ _ _) hr hu); clear hr hu))
          exact bodyPost_ret (results_cell_row rfl _ _ w.heap.size 50 _ _ _ (by go_simp) Y42.out.r2 Try.underlying50 rfl LZS.out) rfl ⟨_, _, rfl, LsN.nil _ _, Y42.out.rr, Y42.out.gw⟩
        · rw [if_pos rfl] at hZ
          subst hZ
          go_wp2_with (first
            | (go_at_call 35; (with_reducible refine (rerr p lk 0 wr Y.out.rr).mono ?_); rintro x w' ⟨rfl, rfl⟩)
            | ((with_reducible refine load_rowg (o := ⟨some 59, _, _, _, _, _⟩) 3 true 58 rfl _ _ rfl w2.heap.size _ (ldC (a : Int) (b : Int) (c : Int) (d : Int) ad m cc) _ Y.out.rT Try.underlying50 rfl ?_ ?_ ?_ ?_ ?_); (focus rfl); (focus (first | (go_simp; done) | (go_simp; rfl))); (focus (first | (go_simp; done) | (go_simp; rfl))); (focus (exact LZS.out)))
            | (go_at_call 42; (with_reducible refine HC.out.mono ?_); rintro x w40 ⟨rfl, hb⟩; have Y40 := Lib.hid (Y.out.grow hb); clear hb)
            | (go_at_call 35; (with_reducible refine (rerr p lk 0 w40 Y40.out.rr).mono ?_); rintro x w' ⟨rfl, rfl⟩)
            | ((with_reducible refine load_row (o := ⟨some 69, _, _, _, _, _⟩) rfl _ _ rfl w2.heap.size ?_ _ (ldC (a : Int) (b : Int) (c : Int) (d : Int) ad m cc) _ Y40.out.rT Try.underlying50 rfl ?_ ?_); (focus go_simp); (focus (exact LZS.out)))
            | ((with_reducible refine store_row (o := ⟨none, _, _, _, _, _⟩) rfl _ (.tmp 2) _ rfl w.heap.size (ldC (a : Int) (b : Int) (c : Int) (d : Int) ad m cc) ?_ ?_ 50 _ Y40.out.r2 ?_ ?_ ?_ ?_); (focus go_simp); (focus (first | (go_simp; done) | (go_simp; rfl))); (focus (exact LZS.out)); (focus rfl); (focus (exact ld_one _ _ _ _ _ _ _)); intro w42 hr hu; have Y42 := Lib.hid (Y40.out.set2 (nob_ld _ _ _ _ _ _ _) hr hu); clear hr hu))
          exact bodyPost_ret (results_cell_row rfl _ _ w.heap.size 50 _ _ _ (by go_simp) Y42.out.r2 Try.underlying50 rfl LZS.out) rfl ⟨ad, cc, (by rw [HLM.out]), (by rw [HLM.out]; exact Y42.out.ln), Y42.out.rr, Y42.out.gw⟩
    · have hq : (ek == 0) = false := by simpa using hek
      have hq2 : (ek != 0) = true := by simpa using hek
      have hZ := HZ.out
      have hst : (rdHds n l5 e5).2 = (lk, ek) := by
        have h1 := STK.out k (by rw [HK.out]; exact hek) (n - k)
        rw [show k + (n - k) = n by omega, HK.out] at h1
        exact h1
      have hz2 : Z = (ldZ, lk, ek) := by
        rw [← hZ]; unfold endLd; rw [hst]; dsimp only; rw [if_neg hek]
      subst hz2
      clear hZ hst
      by_cases hlt : k < n
      · have g2 : (k : Int) < (n : Int) := by omega
        go_wp2_with (first
          | (go_at_call 35; (with_reducible refine (rerr p lk ek wr Y.out.rr).mono ?_); rintro x w' ⟨rfl, rfl⟩)
          | ((with_reducible refine build_row (o := ⟨some 68, _, _, _, _, _⟩) rfl _ _ rfl (ldC 0 0 0 0 none 0 0) ?_ ?_); (focus (go_simp; exact ybuilt0)))
          | ((with_reducible refine store_row (o := ⟨none, _, _, _, _, _⟩) rfl _ (.tmp 2) _ rfl w.heap.size (ldC 0 0 0 0 none 0 0) ?_ ?_ 50 _ Y.out.r2 ?_ ?_ ?_ ?_); (focus go_simp); (focus (first | (go_simp; done) | (go_simp; rfl))); (focus (exact LZS.out)); (focus rfl); (focus (exact ld_one _ _ _ _ _ _ _)); intro w42 hr hu; have Y42 := Lib.hid (Y.out.set2 (nob_ld _ _ _ _ _ _ _) hr hu); clear hr hu))
        exact bodyPost_ret (results_cell_row rfl _ _ w.heap.size 50 _ _ _ (by go_simp) Y42.out.r2 Try.underlying50 rfl LZS.out) rfl ⟨_, _, rfl, LsN.nil _ _, Y42.out.rr, Y42.out.gw⟩
      · obtain rfl : n = k := by omega
        go_wp2_with (first
          | (go_at_call 35; (with_reducible refine (rerr p lk ek wr Y.out.rr).mono ?_); rintro x w' ⟨rfl, rfl⟩)
          | ((with_reducible refine build_row (o := ⟨some 68, _, _, _, _, _⟩) rfl _ _ rfl (ldC 0 0 0 0 none 0 0) ?_ ?_); (focus (go_simp; exact ybuilt0)))
          | ((with_reducible refine store_row (o := ⟨none, _, _, _, _, _⟩) rfl _ (.tmp 2) _ rfl w.heap.size (ldC 0 0 0 0 none 0 0) ?_ ?_ 50 _ Y.out.r2 ?_ ?_ ?_ ?_); (focus go_simp); (focus (first | (go_simp; done) | (go_simp; rfl))); (focus (exact LZS.out)); (focus rfl); (focus (exact ld_one _ _ _ _ _ _ _)); intro w42 hr hu; have Y42 := Lib.hid (Y.out.set2 (nob_ld _ _ _ _ _ _ _) hr hu); clear hr hu))
        exact bodyPost_ret (results_cell_row rfl _ _ w.heap.size 50 _ _ _ (by go_simp) Y42.out.r2 Try.underlying50 rfl LZS.out) rfl ⟨_, _, rfl, LsN.nil _ _, Y42.out.rr, Y42.out.gw⟩
end Go.Proofs.Ytiopcojkdglapaa.W
