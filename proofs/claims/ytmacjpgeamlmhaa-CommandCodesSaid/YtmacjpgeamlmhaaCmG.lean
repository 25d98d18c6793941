/- LAYER 23 (command): plain: what bytes are read to; lists.Read of caveats, read, Decode of the program. -/
import Derived.Test.YtmacjpgeamlmhaaCmN
import Derived.Test.YtmacjpgeamlmhaaCavG
import Derived.Test.YtmacjpgeamlmhaaMfPr
import Derived.Test.YtmacjpgeamlmhaaMfPk
set_option linter.unusedSimpArgs false
set_option linter.unusedVariables false
namespace Go.Proofs.Ytmacjpgeamlmhaa.W
open Go Go.ChangeShapes Go.WideShapes Go.ChangeAt Go.RowKit
open Go.Proofs.Ytmacjpgeamlmhaa.P (enc dec)
open Go.Proofs.Ytmacjpgeamlmhaa.S

-- ---- plain
def rdVL (l : List UInt8) (e : Int) : List Cv × List UInt8 × Int := let k := numR 8 l e; (lsLm (rdN k.1 k.2.1 k.2.2), (rdN k.1 k.2.1 k.2.2).2)
def rdCm (l : List UInt8) (e : Int) : Cm × List UInt8 × Int :=
  let a0 := numR 7 l e; let a1 := numR 2147483648 a0.2.1 a0.2.2; let a2 := numR 14 a1.2.1 a1.2.2; let a3 := numR 2147483648 a2.2.1 a2.2.2; let a4 := numR 2147483648 a3.2.1 a3.2.2
  let a5 := rdVL a4.2.1 a4.2.2; let a6 := textR 16 a5.2.1 a5.2.2; let a7 := textR 16 a6.2.1 a6.2.2
  let a8 := numR 2147483648 a7.2.1 a7.2.2; let a9 := numR 1099511627776 a8.2.1 a8.2.2; let a10 := numR 1099511627776 a9.2.1 a9.2.2; let a11 := rdPL a10.2.1 a10.2.2
  (⟨(a0.1 : Int), (a1.1 : Int), (a2.1 : Int), (a3.1 : Int), (a4.1 : Int), a5.1, str a6.1, str a7.1, (a8.1 : Int), (a9.1 : Int), (a10.1 : Int), a11.1⟩, a11.2)
def cmZ : Cm := ⟨0, 0, 0, 0, 0, [], ⟨#[]⟩, ⟨#[]⟩, 0, 0, 0, []⟩
def finB (m : Cm) (l : List UInt8) (e : Int) (ok : Bool) : Cm × Int :=
  if ok = true then (if endV l e = 0 then (m, 0) else (cmZ, endV l e)) else (if endV (failL l e 3) (failE e 3) = 0 then (m, 0) else (cmZ, endV (failL l e 3) (failE e 3)))
theorem fail_end (l : List UInt8) (e : Int) : endV (failL l e 3) (failE e 3) ≠ 0 := by
  unfold endV failE
  by_cases h : e = 0
  · subst h; simp
  · simp [h]
def finCm (q : Cm × List UInt8 × Int) : Cm × Int := finB q.1 q.2.1 q.2.2 q.1.ok
def decCm (b : List UInt8) : Cm × Int := finCm (rdCm b 0)
/-- what is read lies within its limits -/
structure LimC (m : Cm) : Prop where
  cl : m.cl ≤ 7 ∧ 0 ≤ m.cl
  sq : m.sq ≤ 2147483648 ∧ 0 ≤ m.sq
  kd : m.kd ≤ 14 ∧ 0 ≤ m.kd
  id : m.id ≤ 2147483648 ∧ 0 ≤ m.id
  ep : m.ep ≤ 2147483648 ∧ 0 ≤ m.ep
  V8 : m.V.length ≤ 8
  V : ∀ c ∈ m.V, c.fit
  sp : m.sp.size ≤ 16
  nm : m.nm.size ≤ 16
  nu : m.nu ≤ 2147483648 ∧ 0 ≤ m.nu
  by' : m.by' ≤ 1099511627776 ∧ 0 ≤ m.by'
  ti : m.ti ≤ 1099511627776 ∧ 0 ≤ m.ti
  P8 : m.P.length ≤ 8
  P : ∀ p ∈ m.P, p.fit
theorem rdVL_mem (l : List UInt8) (e : Int) : ∀ c ∈ (rdVL l e).1, c.fit := by
  intro c hc
  unfold rdVL lsLm at hc
  dsimp only at hc
  split at hc
  · exact rdN_fit _ _ _ c hc
  · cases hc
theorem rdVL_len (l : List UInt8) (e : Int) : (rdVL l e).1.length ≤ 8 := by
  have := numR_leM 8 (by decide) l e
  unfold rdVL lsLm
  dsimp only
  split
  · rw [rdN_len]; omega
  · simp
theorem str_16 (l : List UInt8) (e : Int) : (str (textR 16 l e).1).size ≤ 16 := by
  have := textR_sizeM 16 (by decide) l e
  rw [str_sizeM]; omega
theorem rdCm_lim (l : List UInt8) (e : Int) : LimC (rdCm l e).1 := by
  unfold rdCm
  dsimp only
  exact ⟨⟨numR_leM 7 (by decide) _ _, by dsimp only; omega⟩, ⟨numR_leM 2147483648 (by decide) _ _, by dsimp only; omega⟩, ⟨numR_leM 14 (by decide) _ _, by dsimp only; omega⟩, ⟨numR_leM 2147483648 (by decide) _ _, by dsimp only; omega⟩, ⟨numR_leM 2147483648 (by decide) _ _, by dsimp only; omega⟩,
    rdVL_len _ _, rdVL_mem _ _, str_16 _ _, str_16 _ _, ⟨numR_leM 2147483648 (by decide) _ _, by dsimp only; omega⟩, ⟨numR_leM 1099511627776 (by decide) _ _, by dsimp only; omega⟩, ⟨numR_leM 1099511627776 (by decide) _ _, by dsimp only; omega⟩, rdPL_len _ _, rdPL_mem Pc.fit rdPc_fit _ _⟩
theorem cmZ_lim : LimC cmZ := ⟨by decide, by decide, by decide, by decide, by decide, by decide, by simp [cmZ], by decide, by decide, by decide, by decide, by decide, by decide, by simp [cmZ]⟩
theorem decCm_lim (b : List UInt8) : LimC (decCm b).1 := by
  unfold decCm finCm finB
  repeat' split
  all_goals first | exact rdCm_lim _ _ | exact cmZ_lim
-- ---- lists.Read of caveats
theorem cvNb : cvE.Nb where
  z := by intro x hx; simp [Value.cells, B] at hx
  c := by intro s x hx; simp [B, Cv.cells] at hx
  p := by decide
theorem cv_fill (y : Cv) : Instr.fill (fun i => some (i * cvE.k, cvE.k)) ((Array.range (1 * cvE.k)).map (cvE.z.cells[· % cvE.z.cells.size]!)) [(0, .agg (cvE.cells y).toArray)] = some (cvE.cells y).toArray := by
  obtain ⟨k, n, s⟩ := y
  kernel_rfl
theorem creadC (p : Nat) (l : List UInt8) (e : Int) (w : World) (h : RP w p l e) :
    Calls Try.prog 88 #[.pointer (some ⟨p, 0, none⟩)] w fun x w' => x = .returned (.agg (cvE.cells (readS l e).1).toArray) ∧ RP w' p (readS l e).2.1 (readS l e).2.2 ∧ Gw p w w' := cread_any p l e w h
set_option maxRecDepth 100000 in
set_option maxHeartbeats 16000000 in
theorem clsread (p : Nat) (l : List UInt8) (e : Int) (w : World) (h : RP w p l e) (n : Nat) (l1 : List UInt8) (e1 : Int) (hq : numR 8 l e = (n, l1, e1)) (hn : n ≤ 8) :
    Calls Try.prog 87 #[.pointer (some ⟨p, 0, none⟩), .int .i64 8, .func (.func 88) #[] #[]] w fun x w' => ∃ a m c, x = .returned (.slice a m c) ∧ (lsLm (rdN n l1 e1)).length = m ∧ LsN cvE w' w.heap.size (.slice a m c) (lsLm (rdN n l1 e1)) ∧ RP w' p (rdN n l1 e1).2.1 (rdN n l1 e1).2.2 ∧ Gw p w w' := by
  have H := Lib.hid h
  have HQ := Lib.hid hq
  have HSZ := Lib.hid cv_size'
  obtain ⟨Z, hZ⟩ : ∃ Z, rdN n l1 e1 = Z := ⟨_, rfl⟩
  rw [hZ]
  have HZ := Lib.hid hZ
  clear h hq hZ
  go_enter Try.func87, Try.ntmps87
  go_wp2_with (first
    | (go_at_call 86; (with_reducible refine (pnumR p 8 l e w H.out).mono ?_); rw [HQ.out]; rintro x w1 ⟨rfl, hP, hu⟩; have P1 := Lib.hid hP; have G1 := Lib.hid (Gw.upd hu); clear hP hu))
  go_loopw [7, 11] (fun v i wr => ∃ (k : Nat) (Lk : List Cv) (lk : List UInt8) (ek : Int) (ad : Option Addr) (m cc : Nat), v = .slice ad m cc ∧ i = .int .i64 (k : Int) ∧ k ≤ n ∧ Lk.length = m ∧ Hid (rdN k l1 e1 = (Lk, lk, ek)) ∧ Hid (LsN cvE wr w.heap.size (.slice ad m cc) Lk) ∧ Hid (RP wr p lk ek) ∧ Hid (Gw p w wr)) (fun _ i _ => n - (intOf i).toNat)
  case atStart => exact ⟨0, [], l1, e1, none, 0, 0, rfl, rfl, Nat.zero_le _, rfl, Lib.hid rfl, Lib.hid (LsN.nil _ _), P1, G1⟩
  case round =>
    obtain ⟨k, Lk, lk, ek, ad, m, cc, rfl, rfl, hk, hlm, HK, N, P, G⟩ := hrel
    have HLM := Lib.hid hlm
    have hmk : m ≤ 8 := by have := rdN_len l1 e1 k; rw [HK.out] at this; dsimp only at this; omega
    clear hlm
    by_cases hlt : k < n
    · obtain ⟨s, lx, ex, hrd⟩ : ∃ x y z, readS lk ek = (x, y, z) := ⟨_, _, _, rfl⟩
      have hft := readS_fit lk ek
      rw [hrd] at hft
      have HRH := Lib.hid (creadC p lk ek wr P.out)
      rw [hrd] at HRH
      have FT := Lib.hid hft
      have HK2 := Lib.hid (show rdN (k + 1) l1 e1 = (Lk ++ [s], lx, ex) by simp only [rdN]; rw [HK.out]; dsimp only; rw [hrd])
      have g2 : (k : Int) < (n : Int) := by omega
      clear hrd hft
      go_wp2_with (first
        | (go_at_call 88; (with_reducible refine HRH.out.mono ?_); rintro x w3 ⟨rfl, hP, hu⟩; have P3 := Lib.hid hP; have N3 := Lib.hid (LsN.rp cvNb N.out P.out hu); have G3 := Lib.hid (G.out.trans hu); clear hP hu)
        | ((with_reducible refine build_ls cvOk cv_fill (o := ⟨some 17, _, _, _, _, _⟩) rfl _ rfl s ?_ ?_ (by decide) ?_); (focus (first | (go_simp; done) | (go_simp; rfl))); (focus (exact FT.out)); intro w4 hl hb hz; have Q4 := Lib.hid hl; have P4 := Lib.hid (P3.out.mono hb); have N4 := Lib.hid (N3.out.kept hb); have G4 := Lib.hid (G3.out.trans (Gw.of_below hb)); clear hl hb hz)
        | (at_builtin; (with_reducible refine append_lsn cvOk cvNb rfl _ _ rfl w.heap.size (.slice ad m cc) Lk ?_ N4.out _ 0 1 1 [s] ?_ Q4.out (by decide) ?_ G4.out.size ?_); (focus (first | (go_simp; done) | (go_simp; rfl))); (focus (first | (go_simp; done) | (go_simp; rfl))); (focus (rw [HLM.out]; omega)); intro v5 w5 hN hb hg; have P5 := Lib.hid (RP.ownL cvNb P4.out N4.out hg); have G5 := Lib.hid (gw_belowM G4.out hb); obtain ⟨m5, hm5⟩ : ∃ q, (Lk ++ [s]).length = q := ⟨_, rfl⟩; obtain ⟨a5, c5, hv5, -, -⟩ := (hN.lso cvOk).ls cvOk (fun x hx => by (have := rdN_fit l1 e1 (k + 1)); rw [HK2.out] at this; exact this x hx); rw [hm5] at hv5; subst hv5; have N5 := Lib.hid hN; have M5 := Lib.hid hm5; clear hN hb hg hm5))
      go_roundw
      case rel => exact ⟨k + 1, _, lx, ex, a5, m5, c5, rfl, vint (by omega), by omega, M5.out, HK2, N5, P5, G5⟩
      case measure => simp [intOf]; omega
    · obtain rfl : n = k := by omega
      have hZ := HZ.out
      rw [HK.out] at hZ
      by_cases hek : ek = 0
      · subst hek
        have HLS := Lib.hid (show lsLm Z = Lk by rw [← hZ]; unfold lsLm; rw [if_pos rfl])
        have HZ2 := Lib.hid (show Z.2 = (lk, 0) by rw [← hZ])
        clear hZ
        go_wp2_with (first
          | (go_at_call 91; (with_reducible refine (perr p lk 0 wr P.out).mono ?_); rintro x w' ⟨rfl, rfl⟩))
        go_ret
        exact ⟨ad, m, cc, rfl, by rw [HLS.out]; exact HLM.out, by rw [HLS.out]; exact N.out, by rw [HZ2.out]; exact P.out, G.out⟩
      · have hq : (ek == 0) = false := by simpa using hek
        have hq2 : (ek != 0) = true := by simpa using hek
        have HLS := Lib.hid (show lsLm Z = [] by rw [← hZ]; unfold lsLm; dsimp only; rw [if_neg hek])
        have HZ2 := Lib.hid (show Z.2 = (lk, ek) by rw [← hZ])
        clear hZ
        go_wp2_with (first
          | (go_at_call 91; (with_reducible refine (perr p lk ek wr P.out).mono ?_); rintro x w' ⟨rfl, rfl⟩))
        go_ret
        exact ⟨none, 0, 0, rfl, by rw [HLS.out]; rfl, by rw [HLS.out]; exact LsN.nil _ _, by rw [HZ2.out]; exact P.out, G.out⟩
theorem creadV (p : Nat) (l : List UInt8) (e : Int) (w : World) (h : RP w p l e) :
    Calls Try.prog 87 #[.pointer (some ⟨p, 0, none⟩), .int .i64 8, .func (.func 88) #[] #[]] w fun x w' => ∃ a m c, x = .returned (.slice a m c) ∧ (rdVL l e).1.length = m ∧ LsN cvE w' w.heap.size (.slice a m c) (rdVL l e).1 ∧ RP w' p (rdVL l e).2.1 (rdVL l e).2.2 ∧ Gw p w w' := by
  have hn := numR_leM 8 (by decide) l e
  obtain ⟨n, l1, e1, hq⟩ : ∃ x y z, numR 8 l e = (x, y, z) := ⟨_, _, _, rfl⟩
  have hpl : rdVL l e = (lsLm (rdN n l1 e1), (rdN n l1 e1).2) := by unfold rdVL; simp only [hq]
  rw [hq] at hn
  rw [hpl]
  exact clsread p l e w h n l1 e1 hq (by dsimp only at hn; omega)
theorem cm_builtR (cl sq kd id ep : Int) (va : Option Addr) (vn vc : Nat) (sp nm : ByteArray) (nu b ti : Int) (pa : Option Addr) (pn pc : Nat) : Try.prog.built 25 [(0, .int .i64 cl), (1, .int .i64 sq), (2, .int .i64 kd), (3, .int .i64 id), (4, .int .i64 ep), (5, .slice va vn vc), (6, .string sp), (7, .string nm), (8, .int .i64 nu), (9, .int .i64 b), (10, .int .i64 ti), (11, .slice pa pn pc)] = some (cmC cl sq kd id ep va vn vc sp nm nu b ti pa pn pc).toArray := by kernel_rfl
theorem cm_built0 : Try.prog.built 25 [] = some (cmC 0 0 0 0 0 none 0 0 ⟨#[]⟩ ⟨#[]⟩ 0 0 0 none 0 0).toArray := by kernel_rfl
theorem nob_cm (cl sq kd id ep : Int) (va : Option Addr) (vn vc : Nat) (sp nm : ByteArray) (nu b ti : Int) (pa : Option Addr) (pn pc : Nat) : NoB (cmC cl sq kd id ep va vn vc sp nm nu b ti pa pn pc) := by intro x hx; simp [B] at hx
set_option maxRecDepth 100000 in
set_option maxHeartbeats 16000000 in
theorem cmread (p : Nat) (l0 : List UInt8) (e0 : Int) (w : World) (h : RP w p l0 e0) :
    Calls Try.prog 51 #[.pointer (some ⟨p, 0, none⟩)] w fun x w' => ∃ y : CmX, x = .returned (.agg y.cells.toArray) ∧ y.m = (rdCm l0 e0).1 ∧ y.m.V.length = y.vn ∧ y.m.P.length = y.pn ∧ LsN cvE w' w.heap.size (.slice y.va y.vn y.vc) y.m.V ∧ LsN pcE w' w.heap.size (.slice y.pa y.pn y.pc) y.m.P ∧ RP w' p (rdCm l0 e0).2.1 (rdCm l0 e0).2.2 ∧ Gw p w w' := by
  have H := Lib.hid h
  have CZ := Lib.hid cm_size
  have CZZ := Lib.hid cm_zero
  have hpl := h.lt
  have hrd : rdCm l0 e0 = rdCm l0 e0 := rfl
  conv at hrd => rhs; unfold rdCm
  obtain ⟨x0, l1, e1, hq0⟩ : ∃ x y z, numR 7 l0 e0 = (x, y, z) := ⟨_, _, _, rfl⟩
  simp only [hq0] at hrd
  obtain ⟨x1, l2, e2, hq1⟩ : ∃ x y z, numR 2147483648 l1 e1 = (x, y, z) := ⟨_, _, _, rfl⟩
  simp only [hq1] at hrd
  obtain ⟨x2, l3, e3, hq2⟩ : ∃ x y z, numR 14 l2 e2 = (x, y, z) := ⟨_, _, _, rfl⟩
  simp only [hq2] at hrd
  obtain ⟨x3, l4, e4, hq3⟩ : ∃ x y z, numR 2147483648 l3 e3 = (x, y, z) := ⟨_, _, _, rfl⟩
  simp only [hq3] at hrd
  obtain ⟨x4, l5, e5, hq4⟩ : ∃ x y z, numR 2147483648 l4 e4 = (x, y, z) := ⟨_, _, _, rfl⟩
  simp only [hq4] at hrd
  obtain ⟨x5, l6, e6, hq5⟩ : ∃ x y z, rdVL l5 e5 = (x, y, z) := ⟨_, _, _, rfl⟩
  simp only [hq5] at hrd
  obtain ⟨x6, l7, e7, hq6⟩ : ∃ x y z, textR 16 l6 e6 = (x, y, z) := ⟨_, _, _, rfl⟩
  simp only [hq6] at hrd
  obtain ⟨x7, l8, e8, hq7⟩ : ∃ x y z, textR 16 l7 e7 = (x, y, z) := ⟨_, _, _, rfl⟩
  simp only [hq7] at hrd
  obtain ⟨x8, l9, e9, hq8⟩ : ∃ x y z, numR 2147483648 l8 e8 = (x, y, z) := ⟨_, _, _, rfl⟩
  simp only [hq8] at hrd
  obtain ⟨x9, l10, e10, hq9⟩ : ∃ x y z, numR 1099511627776 l9 e9 = (x, y, z) := ⟨_, _, _, rfl⟩
  simp only [hq9] at hrd
  obtain ⟨x10, l11, e11, hq10⟩ : ∃ x y z, numR 1099511627776 l10 e10 = (x, y, z) := ⟨_, _, _, rfl⟩
  simp only [hq10] at hrd
  obtain ⟨x11, l12, e12, hq11⟩ : ∃ x y z, rdPL l11 e11 = (x, y, z) := ⟨_, _, _, rfl⟩
  simp only [hq11] at hrd
  rw [hrd]
  clear h hrd
  have Q0 := Lib.hid hq0
  have Q1 := Lib.hid hq1
  have Q2 := Lib.hid hq2
  have Q3 := Lib.hid hq3
  have Q4 := Lib.hid hq4
  have Q5 := Lib.hid hq5
  have Q6 := Lib.hid hq6
  have Q7 := Lib.hid hq7
  have Q8 := Lib.hid hq8
  have Q9 := Lib.hid hq9
  have Q10 := Lib.hid hq10
  have Q11 := Lib.hid hq11
  have HV := Lib.hid (fun w' (hp : RP w' p l5 e5) => creadV p l5 e5 w' hp)
  have HPP := Lib.hid (fun w' (hp : RP w' p l11 e11) => preadps p l11 e11 w' hp)
  simp only [hq5] at HV
  simp only [hq11] at HPP
  clear hq0 hq1 hq2 hq3 hq4 hq5 hq6 hq7 hq8 hq9 hq10 hq11
  go_enter Try.func51, Try.ntmps51
  go_wp2_with (first
    | ((with_reducible refine alloc_row (o := ⟨some 2, _, _, _, _, _⟩) rfl _ rfl _ CZZ.out ?_); intro v0 hr hb hz; have R0 := Lib.hid hr; have P0 := Lib.hid (H.out.mono hb); have G0 := Lib.hid (Gw.of_below (g := p) hb); have NP := Lib.hid (show p ≠ w.heap.size by omega); clear hr hb hz)
    | (go_at_call 86; (with_reducible refine (pnumR p 7 l0 e0 v0 P0.out).mono ?_); rw [Q0.out]; rintro x v1 ⟨rfl, hP, hu⟩; have P1 := Lib.hid hP; have R1 := Lib.hid (R0.out.upd hu NP.out.symm); have G1 := Lib.hid (G0.out.trans (Gw.upd hu)); clear hP hu)
    | (go_at_call 86; (with_reducible refine (pnumR p 2147483648 l1 e1 v1 P1.out).mono ?_); rw [Q1.out]; rintro x v2 ⟨rfl, hP, hu⟩; have P2 := Lib.hid hP; have R2 := Lib.hid (R1.out.upd hu NP.out.symm); have G2 := Lib.hid (G1.out.trans (Gw.upd hu)); clear hP hu)
    | (go_at_call 86; (with_reducible refine (pnumR p 14 l2 e2 v2 P2.out).mono ?_); rw [Q2.out]; rintro x v3 ⟨rfl, hP, hu⟩; have P3 := Lib.hid hP; have R3 := Lib.hid (R2.out.upd hu NP.out.symm); have G3 := Lib.hid (G2.out.trans (Gw.upd hu)); clear hP hu)
    | (go_at_call 86; (with_reducible refine (pnumR p 2147483648 l3 e3 v3 P3.out).mono ?_); rw [Q3.out]; rintro x v4 ⟨rfl, hP, hu⟩; have P4 := Lib.hid hP; have R4 := Lib.hid (R3.out.upd hu NP.out.symm); have G4 := Lib.hid (G3.out.trans (Gw.upd hu)); clear hP hu)
    | (go_at_call 86; (with_reducible refine (pnumR p 2147483648 l4 e4 v4 P4.out).mono ?_); rw [Q4.out]; rintro x v5 ⟨rfl, hP, hu⟩; have P5 := Lib.hid hP; have R5 := Lib.hid (R4.out.upd hu NP.out.symm); have G5 := Lib.hid (G4.out.trans (Gw.upd hu)); clear hP hu)
    | (go_at_call 87; (with_reducible refine (HV.out v5 P5.out).mono ?_); rintro x v6 ⟨va, vn, vc, rfl, hl, hN, hP, hg⟩; have P6 := Lib.hid hP; have R6 := Lib.hid (R5.out.gw hg NP.out.symm); have N6 := Lib.hid (hN.base G5.out.size); have G6 := Lib.hid (G5.out.trans hg); have VL := Lib.hid hl; clear hl hN hP hg)
    | (go_at_call 89; (with_reducible refine (ptextR p 16 l6 e6 v6 P6.out).mono ?_); rw [Q6.out]; rintro x v7 ⟨rfl, hP, hu⟩; have P7 := Lib.hid hP; have R7 := Lib.hid (R6.out.upd hu NP.out.symm); have G7 := Lib.hid (G6.out.trans (Gw.upd hu)); have N7 := Lib.hid (LsN.rp cvNb N6.out P6.out (Gw.upd hu)); clear hP hu)
    | (go_at_call 89; (with_reducible refine (ptextR p 16 l7 e7 v7 P7.out).mono ?_); rw [Q7.out]; rintro x v8 ⟨rfl, hP, hu⟩; have P8 := Lib.hid hP; have R8 := Lib.hid (R7.out.upd hu NP.out.symm); have G8 := Lib.hid (G7.out.trans (Gw.upd hu)); have N8 := Lib.hid (LsN.rp cvNb N7.out P7.out (Gw.upd hu)); clear hP hu)
    | (go_at_call 86; (with_reducible refine (pnumR p 2147483648 l8 e8 v8 P8.out).mono ?_); rw [Q8.out]; rintro x v9 ⟨rfl, hP, hu⟩; have P9 := Lib.hid hP; have R9 := Lib.hid (R8.out.upd hu NP.out.symm); have G9 := Lib.hid (G8.out.trans (Gw.upd hu)); have N9 := Lib.hid (LsN.rp cvNb N8.out P8.out (Gw.upd hu)); clear hP hu)
    | (go_at_call 86; (with_reducible refine (pnumR p 1099511627776 l9 e9 v9 P9.out).mono ?_); rw [Q9.out]; rintro x v10 ⟨rfl, hP, hu⟩; have P10 := Lib.hid hP; have R10 := Lib.hid (R9.out.upd hu NP.out.symm); have G10 := Lib.hid (G9.out.trans (Gw.upd hu)); have N10 := Lib.hid (LsN.rp cvNb N9.out P9.out (Gw.upd hu)); clear hP hu)
    | (go_at_call 86; (with_reducible refine (pnumR p 1099511627776 l10 e10 v10 P10.out).mono ?_); rw [Q10.out]; rintro x v11 ⟨rfl, hP, hu⟩; have P11 := Lib.hid hP; have R11 := Lib.hid (R10.out.upd hu NP.out.symm); have G11 := Lib.hid (G10.out.trans (Gw.upd hu)); have N11 := Lib.hid (LsN.rp cvNb N10.out P10.out (Gw.upd hu)); clear hP hu)
    | (go_at_call 90; (with_reducible refine (HPP.out v11 P11.out).mono ?_); rintro x v12 ⟨pa, pn, pc, rfl, hl, hN, hP, hg⟩; have P12 := Lib.hid hP; have R12 := Lib.hid (R11.out.gw hg NP.out.symm); have N12 := Lib.hid (LsN.rp cvNb N11.out P11.out hg); have M12 := Lib.hid (hN.base G11.out.size); have G12 := Lib.hid (G11.out.trans hg); have PL := Lib.hid hl; clear hl hN hP hg)
    | ((with_reducible refine build_row (o := ⟨some 27, _, _, _, _, _⟩) rfl _ _ rfl (cmC (x0 : Int) (x1 : Int) (x2 : Int) (x3 : Int) (x4 : Int) va vn vc (str x6) (str x7) (x8 : Int) (x9 : Int) (x10 : Int) pa pn pc) ?_ ?_); (focus (go_simp; exact cm_builtR _ _ _ _ _ _ _ _ _ _ _ _ _ _ _ _)))
    | ((with_reducible refine store_row (o := ⟨none, _, _, _, _, _⟩) rfl _ (.tmp 2) _ rfl w.heap.size (cmC (x0 : Int) (x1 : Int) (x2 : Int) (x3 : Int) (x4 : Int) va vn vc (str x6) (str x7) (x8 : Int) (x9 : Int) (x10 : Int) pa pn pc) ?_ ?_ 25 _ R12.out ?_ ?_ ?_ ?_); (focus go_simp); (focus (first | (go_simp; done) | (go_simp; rfl))); (focus (exact CZ.out)); (focus rfl); (focus (exact cm_one _ _ _ _ _ _ _ _ _ _ _ _ _ _ _ _)); intro v13 hr hu; have R13 := Lib.hid hr; have P13 := Lib.hid (P12.out.putM' NP.out R12.out (nob_cm _ _ _ _ _ _ _ _ _ _ _ _ _ _ _ _) hu); have G13 := Lib.hid (G12.out.tail (Nat.le_refl _) hu); have N13 := Lib.hid (N12.out.upd hu (N12.out.own_neM R12.out (by decide))); have M13 := Lib.hid (M12.out.upd hu (M12.out.own_neM R12.out (by decide))); clear hr hu))
  exact bodyPost_ret (results_cell_row rfl _ _ w.heap.size 25 _ _ _ (by go_simp) R13.out Try.underlying25 rfl CZ.out) rfl ⟨⟨⟨(x0 : Int), (x1 : Int), (x2 : Int), (x3 : Int), (x4 : Int), x5, str x6, str x7, (x8 : Int), (x9 : Int), (x10 : Int), x11⟩, va, vn, vc, pa, pn, pc⟩, rfl, rfl, VL.out, PL.out, N13.out, M13.out, P13.out, G13.out⟩
theorem lim_fit {w : World} {y : CmX} {base base' : Nat} (h : LimC y.m) (h1 : y.m.V.length = y.vn) (h2 : y.m.P.length = y.pn) (hN : LsN cvE w base (.slice y.va y.vn y.vc) y.m.V) (hM : LsN pcE w base' (.slice y.pa y.pn y.pc) y.m.P) : y.fit w := by
  have hm : (16 : Nat) ≤ maxLen := by decide
  exact ⟨⟨by have := h.cl; omega, by have := h.cl; omega⟩, ⟨by have := h.sq; omega, by have := h.sq; omega⟩, ⟨by have := h.kd; omega, by have := h.kd; omega⟩, ⟨by have := h.id; omega, by have := h.id; omega⟩, ⟨by have := h.ep; omega, by have := h.ep; omega⟩,
    (lso_out cvOk (hN.lso cvOk) h1 h.V).cvs, Nat.le_trans h.sp hm, Nat.le_trans h.nm hm, ⟨by have := h.nu; omega, by have := h.nu; omega⟩, ⟨by have := h.by'; omega, by have := h.by'; omega⟩, ⟨by have := h.ti; omega, by have := h.ti; omega⟩, lso_out pcOk (hM.lso pcOk) h2 h.P⟩
def cmZX : CmX := ⟨cmZ, none, 0, 0, none, 0, 0⟩
theorem cmZX_fit (w : World) : cmZX.fit w := lim_fit cmZ_lim rfl rfl (LsN.nil w 0) (LsN.nil w 0)
set_option maxRecDepth 100000 in
set_option maxHeartbeats 16000000 in
theorem cmdecode (ba : Option Addr) (bm bc : Nat) (b : List UInt8) (w : World) (h : Rd w ba bm bc b) (hm : bm ≤ 100000) :
    Calls Try.prog 16 #[.slice ba bm bc] w fun x w' => ∃ y : CmX, x = .returned (.tuple #[.agg y.cells.toArray, .int .i64 (decCm b).2]) ∧ y.m = (decCm b).1 ∧ y.fit w' ∧ Below w.heap.size w w' := by
  have HOP := Lib.hid (fun w' (hb : Below w.heap.size w w') => popen ba bm bc b w' (h.mono hb) (by omega))
  have CZ := Lib.hid cm_size
  have CZZ := Lib.hid cm_zero
  have hlim := rdCm_lim b 0
  obtain ⟨⟨cl, sq, kd, id, ep, V, sp, nm, nu, by1, ti, P⟩, l1, e1, hq⟩ : ∃ x y z, rdCm b 0 = (x, y, z) := ⟨_, _, _, rfl⟩
  have HRD := Lib.hid (fun p w' (hp : RP w' p b 0) => cmread p b 0 w' hp)
  have hdec : decCm b = finCm (rdCm b 0) := rfl
  rw [hq] at hlim hdec
  simp only [hq] at HRD
  dsimp only at hlim
  rw [hdec]
  have LIM := Lib.hid hlim
  obtain ⟨ok, hok⟩ : ∃ ok, Cm.ok ⟨cl, sq, kd, id, ep, V, sp, nm, nu, by1, ti, P⟩ = ok := ⟨_, rfl⟩
  have HCK := Lib.hid (fun va vn vc pa pn pc w' (hf : CmX.fit w' ⟨⟨cl, sq, kd, id, ep, V, sp, nm, nu, by1, ti, P⟩, va, vn, vc, pa, pn, pc⟩) => (by have q := cmcheck ⟨⟨cl, sq, kd, id, ep, V, sp, nm, nu, by1, ti, P⟩, va, vn, vc, pa, pn, pc⟩ w' hf; unfold Cm.err at q; rw [hok] at q; exact q : Calls Try.prog 12 #[.agg (cmC cl sq kd id ep va vn vc sp nm nu by1 ti pa pn pc).toArray] w' fun e w'' => e = .returned (.int .i64 (if ok then 0 else 1)) ∧ Below w'.heap.size w' w''))
  unfold finCm
  dsimp only
  rw [hok]
  unfold finB
  clear h hm hlim hq hdec hok
  cases ok
  · rw [if_neg (by decide)]
    have HCK2 := Lib.hid (fun va vn vc pa pn pc w' (hf : CmX.fit w' ⟨⟨cl, sq, kd, id, ep, V, sp, nm, nu, by1, ti, P⟩, va, vn, vc, pa, pn, pc⟩) => show Calls Try.prog 12 #[.agg (cmC cl sq kd id ep va vn vc sp nm nu by1 ti pa pn pc).toArray] w' fun e w'' => e = .returned (.int .i64 1) ∧ Below w'.heap.size w' w'' from HCK.out va vn vc pa pn pc w' hf)
    try dsimp only
    obtain ⟨l7, hl7⟩ : ∃ l, failL l1 e1 3 = l := ⟨_, rfl⟩
    obtain ⟨e7, he7⟩ : ∃ e, failE e1 3 = e := ⟨_, rfl⟩
    have hne : endV l7 e7 ≠ 0 := by rw [← he7, ← hl7]; exact fail_end l1 e1
    rw [hl7, he7]
    obtain ⟨E, hE⟩ : ∃ E, endV l7 e7 = E := ⟨_, rfl⟩
    rw [hE] at hne ⊢
    rw [if_neg hne]
    have HEV := Lib.hid hE
    have HL7 := Lib.hid hl7
    have HE7 := Lib.hid he7
    have b1 : (E != 0) = true := by simpa using hne
    have b2 : (E == 0) = false := by simpa using hne
    clear HCK hl7 he7 hE
    go_enter Try.func16, Try.ntmps16
    go_wp2_with (first
      | ((with_reducible refine alloc_row (o := ⟨some 2, _, _, _, _, _⟩) rfl _ rfl _ CZZ.out ?_); intro w1 hr hb hz; have R1 := Lib.hid hr; have B1 := Lib.hid hb; clear hr hb hz)
      | (go_at_call 50; (with_reducible refine (HOP.out w1 B1.out).mono ?_); rintro x w2 ⟨p, rfl, hp1, hp2, hb⟩; have P2 := Lib.hid hp2; have PW := Lib.hid (Nat.le_trans B1.out.size hp1); have NP := Lib.hid (Nat.ne_of_lt (Nat.lt_of_lt_of_le R1.out.lt hp1)); have R2 := Lib.hid (R1.out.below hb R1.out.lt); have B2 := Lib.hid (B1.out.trans (hb.mono B1.out.size)); clear hp1 hp2 hb)
      | (go_at_call 51; (with_reducible refine (HRD.out p w2 P2.out).mono ?_); rintro x w3 ⟨⟨M, va, vn, vc, pa, pn, pc⟩, rfl, hM0, hv, hp, hN, hM, hP, hg⟩; dsimp only at hM0 hv hp hN hM hP; subst hM0; have P3 := Lib.hid hP; have R3 := Lib.hid (R2.out.gw hg NP.out); have B3 := Lib.hid (B2.out.trans (hg.below PW.out B2.out.size)); have PL3 := Lib.hid (Nat.lt_of_lt_of_le P2.out.lt hg.size); have N3 := Lib.hid hN; have M3 := Lib.hid hM; have VL := Lib.hid hv; have PL := Lib.hid hp; clear hv hp hN hM hP hg)
      | ((with_reducible refine alloc_row (o := ⟨some 5, _, _, _, _, _⟩) rfl _ rfl _ CZZ.out ?_); intro w4 hr hb hz; have T4 := Lib.hid hr; have P4 := Lib.hid (P3.out.mono hb); have R4 := Lib.hid (R3.out.below hb R3.out.lt); have B4 := Lib.hid (B3.out.trans (hb.mono B3.out.size)); have N4 := Lib.hid (N3.out.kept hb); have M4 := Lib.hid (M3.out.kept hb); have PT := Lib.hid (Nat.ne_of_lt P3.out.lt); have RT := Lib.hid (Nat.ne_of_lt R3.out.lt); clear hr hb hz)
      | ((with_reducible refine store_row (o := ⟨none, _, _, _, _, _⟩) rfl _ (.tmp 5) _ rfl w3.heap.size (cmC cl sq kd id ep va vn vc sp nm nu by1 ti pa pn pc) ?_ ?_ 25 _ T4.out ?_ ?_ ?_ ?_); (focus go_simp); (focus (first | (go_simp; done) | (go_simp; rfl))); (focus (exact CZ.out)); (focus rfl); (focus (exact cm_one _ _ _ _ _ _ _ _ _ _ _ _ _ _ _ _)); intro w5 hr hu; have T5 := Lib.hid hr; have P5 := Lib.hid (P4.out.putM' PT.out T4.out (nob_cm _ _ _ _ _ _ _ _ _ _ _ _ _ _ _ _) hu); have R5 := Lib.hid (R4.out.upd hu RT.out); have B5 := Lib.hid (B4.out.trans (hu.below B3.out.size)); have N5 := Lib.hid (N4.out.upd hu (N4.out.own_neM T4.out (by decide))); have M5 := Lib.hid (M4.out.upd hu (M4.out.own_neM T4.out (by decide))); have F5 := Lib.hid (lim_fit (y := ⟨⟨cl, sq, kd, id, ep, V, sp, nm, nu, by1, ti, P⟩, va, vn, vc, pa, pn, pc⟩) LIM.out VL.out PL.out N5.out M5.out); clear hr hu)
      | ((with_reducible refine load_row (o := ⟨some 11, _, _, _, _, _⟩) rfl _ _ rfl w3.heap.size ?_ _ (cmC cl sq kd id ep va vn vc sp nm nu by1 ti pa pn pc) _ T5.out Try.underlying25 rfl ?_ ?_); (focus go_simp); (focus (exact CZ.out)))
      | (go_at_call 12; (with_reducible refine (HCK2.out va vn vc pa pn pc w5 F5.out).mono ?_); rintro x w6 ⟨rfl, hb⟩; have T6 := Lib.hid (T5.out.below hb T5.out.lt); have P6 := Lib.hid (P5.out.mono hb); have R6 := Lib.hid (R5.out.below hb R5.out.lt); have B6 := Lib.hid (B5.out.trans (hb.mono B5.out.size)); have N6 := Lib.hid (N5.out.kept hb); have M6 := Lib.hid (M5.out.kept hb); clear hb)
      | (go_at_call 52; (with_reducible refine (pfail p l1 e1 3 w6 P6.out).mono ?_); rw [HL7.out, HE7.out]; rintro x w7 ⟨rfl, hP, hu⟩; have P7 := Lib.hid hP; have R7 := Lib.hid (R6.out.upd hu NP.out); have B7 := Lib.hid (B6.out.trans (hu.below PW.out)); clear hP hu)
      | (go_at_call 53; (with_reducible refine (pend p l7 e7 w7 P7.out).mono ?_); rw [HEV.out]; rintro x w' ⟨rfl, rfl⟩)
      | ((with_reducible refine build_row (o := ⟨some 20, _, _, _, _, _⟩) rfl _ _ rfl (cmC 0 0 0 0 0 none 0 0 ⟨#[]⟩ ⟨#[]⟩ 0 0 0 none 0 0) ?_ ?_); (focus (go_simp; exact cm_built0)))
      | ((with_reducible refine store_row (o := ⟨none, _, _, _, _, _⟩) rfl _ (.tmp 2) _ rfl w.heap.size (cmC 0 0 0 0 0 none 0 0 ⟨#[]⟩ ⟨#[]⟩ 0 0 0 none 0 0) ?_ ?_ 25 _ R7.out ?_ ?_ ?_ ?_); (focus go_simp); (focus (first | (go_simp; done) | (go_simp; rfl))); (focus (exact CZ.out)); (focus rfl); (focus (exact cm_one _ _ _ _ _ _ _ _ _ _ _ _ _ _ _ _)); intro w9 hr hu; have R9 := Lib.hid hr; have B9 := Lib.hid (B7.out.trans (hu.below (Nat.le_refl _))); clear hr hu))
    exact bodyPost_ret (results_row_tmp rfl _ _ w.heap.size 25 _ _ _ (by go_simp) R9.out Try.underlying25 rfl CZ.out) rfl ⟨cmZX, rfl, rfl, cmZX_fit _, B9.out⟩
  · rw [if_pos rfl]
    have HCK2 := Lib.hid (fun va vn vc pa pn pc w' (hf : CmX.fit w' ⟨⟨cl, sq, kd, id, ep, V, sp, nm, nu, by1, ti, P⟩, va, vn, vc, pa, pn, pc⟩) => show Calls Try.prog 12 #[.agg (cmC cl sq kd id ep va vn vc sp nm nu by1 ti pa pn pc).toArray] w' fun e w'' => e = .returned (.int .i64 0) ∧ Below w'.heap.size w' w'' from HCK.out va vn vc pa pn pc w' hf)
    try dsimp only
    obtain ⟨E, hE⟩ : ∃ E, endV l1 e1 = E := ⟨_, rfl⟩
    rw [hE]
    have HEV := Lib.hid hE
    clear HCK hE
    by_cases hne : E = 0
    · subst hne
      rw [if_pos rfl]
      go_enter Try.func16, Try.ntmps16
      go_wp2_with (first
        | ((with_reducible refine alloc_row (o := ⟨some 2, _, _, _, _, _⟩) rfl _ rfl _ CZZ.out ?_); intro w1 hr hb hz; have R1 := Lib.hid hr; have B1 := Lib.hid hb; clear hr hb hz)
        | (go_at_call 50; (with_reducible refine (HOP.out w1 B1.out).mono ?_); rintro x w2 ⟨p, rfl, hp1, hp2, hb⟩; have P2 := Lib.hid hp2; have PW := Lib.hid (Nat.le_trans B1.out.size hp1); have NP := Lib.hid (Nat.ne_of_lt (Nat.lt_of_lt_of_le R1.out.lt hp1)); have R2 := Lib.hid (R1.out.below hb R1.out.lt); have B2 := Lib.hid (B1.out.trans (hb.mono B1.out.size)); clear hp1 hp2 hb)
        | (go_at_call 51; (with_reducible refine (HRD.out p w2 P2.out).mono ?_); rintro x w3 ⟨⟨M, va, vn, vc, pa, pn, pc⟩, rfl, hM0, hv, hp, hN, hM, hP, hg⟩; dsimp only at hM0 hv hp hN hM hP; subst hM0; have P3 := Lib.hid hP; have R3 := Lib.hid (R2.out.gw hg NP.out); have B3 := Lib.hid (B2.out.trans (hg.below PW.out B2.out.size)); have PL3 := Lib.hid (Nat.lt_of_lt_of_le P2.out.lt hg.size); have N3 := Lib.hid hN; have M3 := Lib.hid hM; have VL := Lib.hid hv; have PL := Lib.hid hp; clear hv hp hN hM hP hg)
        | ((with_reducible refine alloc_row (o := ⟨some 5, _, _, _, _, _⟩) rfl _ rfl _ CZZ.out ?_); intro w4 hr hb hz; have T4 := Lib.hid hr; have P4 := Lib.hid (P3.out.mono hb); have R4 := Lib.hid (R3.out.below hb R3.out.lt); have B4 := Lib.hid (B3.out.trans (hb.mono B3.out.size)); have N4 := Lib.hid (N3.out.kept hb); have M4 := Lib.hid (M3.out.kept hb); have PT := Lib.hid (Nat.ne_of_lt P3.out.lt); have RT := Lib.hid (Nat.ne_of_lt R3.out.lt); clear hr hb hz)
        | ((with_reducible refine store_row (o := ⟨none, _, _, _, _, _⟩) rfl _ (.tmp 5) _ rfl w3.heap.size (cmC cl sq kd id ep va vn vc sp nm nu by1 ti pa pn pc) ?_ ?_ 25 _ T4.out ?_ ?_ ?_ ?_); (focus go_simp); (focus (first | (go_simp; done) | (go_simp; rfl))); (focus (exact CZ.out)); (focus rfl); (focus (exact cm_one _ _ _ _ _ _ _ _ _ _ _ _ _ _ _ _)); intro w5 hr hu; have T5 := Lib.hid hr; have P5 := Lib.hid (P4.out.putM' PT.out T4.out (nob_cm _ _ _ _ _ _ _ _ _ _ _ _ _ _ _ _) hu); have R5 := Lib.hid (R4.out.upd hu RT.out); have B5 := Lib.hid (B4.out.trans (hu.below B3.out.size)); have N5 := Lib.hid (N4.out.upd hu (N4.out.own_neM T4.out (by decide))); have M5 := Lib.hid (M4.out.upd hu (M4.out.own_neM T4.out (by decide))); have F5 := Lib.hid (lim_fit (y := ⟨⟨cl, sq, kd, id, ep, V, sp, nm, nu, by1, ti, P⟩, va, vn, vc, pa, pn, pc⟩) LIM.out VL.out PL.out N5.out M5.out); clear hr hu)
        | ((with_reducible refine load_row (o := ⟨some 11, _, _, _, _, _⟩) rfl _ _ rfl w3.heap.size ?_ _ (cmC cl sq kd id ep va vn vc sp nm nu by1 ti pa pn pc) _ T5.out Try.underlying25 rfl ?_ ?_); (focus go_simp); (focus (exact CZ.out)))
        | (go_at_call 12; (with_reducible refine (HCK2.out va vn vc pa pn pc w5 F5.out).mono ?_); rintro x w6 ⟨rfl, hb⟩; have T6 := Lib.hid (T5.out.below hb T5.out.lt); have P6 := Lib.hid (P5.out.mono hb); have R6 := Lib.hid (R5.out.below hb R5.out.lt); have B6 := Lib.hid (B5.out.trans (hb.mono B5.out.size)); have N6 := Lib.hid (N5.out.kept hb); have M6 := Lib.hid (M5.out.kept hb); clear hb)
        | (go_at_call 53; (with_reducible refine (pend p l1 e1 w6 P6.out).mono ?_); rw [HEV.out]; rintro x w' ⟨rfl, rfl⟩)
        | ((with_reducible refine load_row (o := ⟨some 22, _, _, _, _, _⟩) rfl _ _ rfl w3.heap.size ?_ _ (cmC cl sq kd id ep va vn vc sp nm nu by1 ti pa pn pc) _ T6.out Try.underlying25 rfl ?_ ?_); (focus go_simp); (focus (exact CZ.out)))
        | ((with_reducible refine store_row (o := ⟨none, _, _, _, _, _⟩) rfl _ (.tmp 2) _ rfl w.heap.size (cmC cl sq kd id ep va vn vc sp nm nu by1 ti pa pn pc) ?_ ?_ 25 _ R6.out ?_ ?_ ?_ ?_); (focus go_simp); (focus (first | (go_simp; done) | (go_simp; rfl))); (focus (exact CZ.out)); (focus rfl); (focus (exact cm_one _ _ _ _ _ _ _ _ _ _ _ _ _ _ _ _)); intro w9 hr hu; have R9 := Lib.hid hr; have B9 := Lib.hid (B6.out.trans (hu.below (Nat.le_refl _))); have F9 := Lib.hid (lim_fit (y := ⟨⟨cl, sq, kd, id, ep, V, sp, nm, nu, by1, ti, P⟩, va, vn, vc, pa, pn, pc⟩) LIM.out VL.out PL.out (N6.out.upd hu (N6.out.own_neM R6.out (by decide))) (M6.out.upd hu (M6.out.own_neM R6.out (by decide)))); clear hr hu))
      exact bodyPost_ret (results_row_tmp rfl _ _ w.heap.size 25 _ _ _ (by go_simp) R9.out Try.underlying25 rfl CZ.out) rfl ⟨⟨⟨cl, sq, kd, id, ep, V, sp, nm, nu, by1, ti, P⟩, va, vn, vc, pa, pn, pc⟩, rfl, rfl, F9.out, B9.out⟩
    · rw [if_neg hne]
      have b1 : (E != 0) = true := by simpa using hne
      have b2 : (E == 0) = false := by simpa using hne
      go_enter Try.func16, Try.ntmps16
      go_wp2_with (first
        | ((with_reducible refine alloc_row (o := ⟨some 2, _, _, _, _, _⟩) rfl _ rfl _ CZZ.out ?_); intro w1 hr hb hz; have R1 := Lib.hid hr; have B1 := Lib.hid hb; clear hr hb hz)
        | (go_at_call 50; (with_reducible refine (HOP.out w1 B1.out).mono ?_); rintro x w2 ⟨p, rfl, hp1, hp2, hb⟩; have P2 := Lib.hid hp2; have PW := Lib.hid (Nat.le_trans B1.out.size hp1); have NP := Lib.hid (Nat.ne_of_lt (Nat.lt_of_lt_of_le R1.out.lt hp1)); have R2 := Lib.hid (R1.out.below hb R1.out.lt); have B2 := Lib.hid (B1.out.trans (hb.mono B1.out.size)); clear hp1 hp2 hb)
        | (go_at_call 51; (with_reducible refine (HRD.out p w2 P2.out).mono ?_); rintro x w3 ⟨⟨M, va, vn, vc, pa, pn, pc⟩, rfl, hM0, hv, hp, hN, hM, hP, hg⟩; dsimp only at hM0 hv hp hN hM hP; subst hM0; have P3 := Lib.hid hP; have R3 := Lib.hid (R2.out.gw hg NP.out); have B3 := Lib.hid (B2.out.trans (hg.below PW.out B2.out.size)); have PL3 := Lib.hid (Nat.lt_of_lt_of_le P2.out.lt hg.size); have N3 := Lib.hid hN; have M3 := Lib.hid hM; have VL := Lib.hid hv; have PL := Lib.hid hp; clear hv hp hN hM hP hg)
        | ((with_reducible refine alloc_row (o := ⟨some 5, _, _, _, _, _⟩) rfl _ rfl _ CZZ.out ?_); intro w4 hr hb hz; have T4 := Lib.hid hr; have P4 := Lib.hid (P3.out.mono hb); have R4 := Lib.hid (R3.out.below hb R3.out.lt); have B4 := Lib.hid (B3.out.trans (hb.mono B3.out.size)); have N4 := Lib.hid (N3.out.kept hb); have M4 := Lib.hid (M3.out.kept hb); have PT := Lib.hid (Nat.ne_of_lt P3.out.lt); have RT := Lib.hid (Nat.ne_of_lt R3.out.lt); clear hr hb hz)
        | ((with_reducible refine store_row (o := ⟨none, _, _, _, _, _⟩) rfl _ (.tmp 5) _ rfl w3.heap.size (cmC cl sq kd id ep va vn vc sp nm nu by1 ti pa pn pc) ?_ ?_ 25 _ T4.out ?_ ?_ ?_ ?_); (focus go_simp); (focus (first | (go_simp; done) | (go_simp; rfl))); (focus (exact CZ.out)); (focus rfl); (focus (exact cm_one _ _ _ _ _ _ _ _ _ _ _ _ _ _ _ _)); intro w5 hr hu; have T5 := Lib.hid hr; have P5 := Lib.hid (P4.out.putM' PT.out T4.out (nob_cm _ _ _ _ _ _ _ _ _ _ _ _ _ _ _ _) hu); have R5 := Lib.hid (R4.out.upd hu RT.out); have B5 := Lib.hid (B4.out.trans (hu.below B3.out.size)); have N5 := Lib.hid (N4.out.upd hu (N4.out.own_neM T4.out (by decide))); have M5 := Lib.hid (M4.out.upd hu (M4.out.own_neM T4.out (by decide))); have F5 := Lib.hid (lim_fit (y := ⟨⟨cl, sq, kd, id, ep, V, sp, nm, nu, by1, ti, P⟩, va, vn, vc, pa, pn, pc⟩) LIM.out VL.out PL.out N5.out M5.out); clear hr hu)
        | ((with_reducible refine load_row (o := ⟨some 11, _, _, _, _, _⟩) rfl _ _ rfl w3.heap.size ?_ _ (cmC cl sq kd id ep va vn vc sp nm nu by1 ti pa pn pc) _ T5.out Try.underlying25 rfl ?_ ?_); (focus go_simp); (focus (exact CZ.out)))
        | (go_at_call 12; (with_reducible refine (HCK2.out va vn vc pa pn pc w5 F5.out).mono ?_); rintro x w6 ⟨rfl, hb⟩; have T6 := Lib.hid (T5.out.below hb T5.out.lt); have P6 := Lib.hid (P5.out.mono hb); have R6 := Lib.hid (R5.out.below hb R5.out.lt); have B6 := Lib.hid (B5.out.trans (hb.mono B5.out.size)); have N6 := Lib.hid (N5.out.kept hb); have M6 := Lib.hid (M5.out.kept hb); clear hb)
        | (go_at_call 53; (with_reducible refine (pend p l1 e1 w6 P6.out).mono ?_); rw [HEV.out]; rintro x w' ⟨rfl, rfl⟩)
        | ((with_reducible refine build_row (o := ⟨some 20, _, _, _, _, _⟩) rfl _ _ rfl (cmC 0 0 0 0 0 none 0 0 ⟨#[]⟩ ⟨#[]⟩ 0 0 0 none 0 0) ?_ ?_); (focus (go_simp; exact cm_built0)))
        | ((with_reducible refine store_row (o := ⟨none, _, _, _, _, _⟩) rfl _ (.tmp 2) _ rfl w.heap.size (cmC 0 0 0 0 0 none 0 0 ⟨#[]⟩ ⟨#[]⟩ 0 0 0 none 0 0) ?_ ?_ 25 _ R6.out ?_ ?_ ?_ ?_); (focus go_simp); (focus (first | (go_simp; done) | (go_simp; rfl))); (focus (exact CZ.out)); (focus rfl); (focus (exact cm_one _ _ _ _ _ _ _ _ _ _ _ _ _ _ _ _)); intro w9 hr hu; have R9 := Lib.hid hr; have B9 := Lib.hid (B6.out.trans (hu.below (Nat.le_refl _))); clear hr hu))
      exact bodyPost_ret (results_row_tmp rfl _ _ w.heap.size 25 _ _ _ (by go_simp) R9.out Try.underlying25 rfl CZ.out) rfl ⟨cmZX, rfl, rfl, cmZX_fit _, B9.out⟩
end Go.Proofs.Ytmacjpgeamlmhaa.W
