/- LAYER 19 (ledger): the law Codes, for names that are not too long. LAYER 19 (ledger): a ledger as it comes in, with what its holds' names may have at most where all that comes in is small; the law Codes. -/
import Derived.Test.YtiopcojkdglapaaLdCd
import Derived.Test.YtiopcojkdglapaaLdCe
import Derived.Test.YtiopcojkdglapaaLdL
import Derived.Test.YtiopcojkdglapaaLdS
import Derived.Test.YtiopcojkdglapaaRows
set_option linter.unusedSimpArgs false
set_option linter.unusedVariables false
namespace Go.Proofs.Ytiopcojkdglapaa.W
open Go Go.ChangeShapes Go.WideShapes Go.ChangeAt Go.RowKit
open Go.Proofs.Ytiopcojkdglapaa.P (enc dec)

theorem readLd_fit (l : List UInt8) (e : Int) : ∀ s ∈ (readLd l e).1.L, s.fit := by
  unfold readLd endLd
  dsimp only
  split
  · split
    · exact rdHds_fit _ _ _
    · intro s hs; cases hs
  · intro s hs; cases hs
/-- the two ledgers' rows, and the two readers -/
structure LC (w0 w : World) (gA gB : Nat) (CA CB : List Value) (p q : Nat) (lp : List UInt8) (ep : Int) (lq : List UInt8) (eq : Int) : Prop where
  rA : Row w gA 50 CA
  rB : Row w gB 50 CB
  P : RP w p lp ep
  Q : RR w q lq eq
  B : Below w0.heap.size w0 w
  pb : w0.heap.size ≤ p
  qb : w0.heap.size ≤ q
  pA : gA ≠ p
  pB : gB ≠ p
  qA : gA ≠ q
  qB : gB ≠ q
section
variable {w0 w w' : World} {gA gB p q : Nat} {CA CB : List Value} {lp lq : List UInt8} {ep eq : Int}
theorem LC.grow (h : LC w0 w gA gB CA CB p q lp ep lq eq) (hb : Below w.heap.size w w') : LC w0 w' gA gB CA CB p q lp ep lq eq :=
  ⟨h.rA.below hb h.rA.lt, h.rB.below hb h.rB.lt, h.P.mono hb, h.Q.mono hb, h.B.trans (hb.mono h.B.size), h.pb, h.qb, h.pA, h.pB, h.qA, h.qB⟩
theorem LC.rdP (h : LC w0 w gA gB CA CB p q lp ep lq eq) {l' : List UInt8} {e' : Int} (hP : RP w' p l' e') (hg : Gw p w w') : LC w0 w' gA gB CA CB p q l' e' lq eq :=
  ⟨h.rA.gw hg h.pA, h.rB.gw hg h.pB, hP, h.Q.gw h.P hg, h.B.trans (hg.below h.pb h.B.size), h.pb, h.qb, h.pA, h.pB, h.qA, h.qB⟩
theorem LC.rdQ (h : LC w0 w gA gB CA CB p q lp ep lq eq) {l' : List UInt8} {e' : Int} (hQ : RR w' q l' e') (hg : Gw q w w') : LC w0 w' gA gB CA CB p q lp ep l' e' :=
  ⟨h.rA.gw hg h.qA, h.rB.gw hg h.qB, h.P.gw h.Q hg, hQ, h.B.trans (hg.below h.qb h.B.size), h.pb, h.qb, h.pA, h.pB, h.qA, h.qB⟩
end
set_option maxRecDepth 100000 in
set_option maxHeartbeats 32000000 in
theorem codes_of19 (x y : LdX) (ba : Option Addr) (bm bc : Nat) (lb : List UInt8) (w : World) (hx : LdI w x.val x.l) (hy : LdI w y.val y.l) (hb : Rd w ba bm bc lb) (hnm : ∀ s ∈ x.l.L, s.sp.size ≤ 2000000) :
    Calls Try.prog 10 #[x.val, y.val, .slice ba bm bc] w fun e w' => e = .returned (.bool true) ∧ Below w.heap.size w w' := by
  obtain ⟨⟨q, u, h', nx, L⟩, a, n, c⟩ := x
  obtain ⟨⟨q2, u2, h2, nx2, M⟩, a2, n2, c2⟩ := y
  obtain ⟨⟨a0, n0, c0, e0, hl⟩, i1, i2, i3, i4⟩ := hx
  obtain ⟨⟨a5, n5, c5, e5, hl2⟩, -⟩ := hy
  dsimp only at e0 hl i1 i2 i3 i4 e5 hl2 hnm ⊢
  obtain ⟨rfl, rfl, rfl⟩ : a = a0 ∧ n = n0 ∧ c = c0 := by
    injection e0 with e0
    have := congrArg (fun z : Array Value => z.toList[4]?) e0
    simpa using this
  obtain ⟨rfl, rfl, rfl⟩ : a2 = a5 ∧ n2 = n5 ∧ c2 = c5 := by
    injection e5 with e5
    have := congrArg (fun z : Array Value => z.toList[4]?) e5
    simpa using this
  clear e0 e5
  have HL := Lib.hid hl.hlen
  have HB := Lib.hid hb
  have LZS := Lib.hid ld_size
  have LZ := Lib.hid ld_zero
  have LV := Lib.hid (fun w' (hb : Below w.heap.size w w') => (show LdV w' (.agg (ldC q u h' nx a n c).toArray) ⟨q, u, h', nx, L⟩ from ⟨a, n, c, rfl, hl.mono hdOk hb⟩))
  have LV2 := Lib.hid (fun w' (hb : Below w.heap.size w w') => (show LdV w' (.agg (ldC q2 u2 h2 nx2 a2 n2 c2).toArray) ⟨q2, u2, h2, nx2, M⟩ from ⟨a2, n2, c2, rfl, hl2.mono hdOk hb⟩))
  have HF1 := Lib.hid (fun w' (hb : Below w.heap.size w w') => few19 _ ⟨q, u, h', nx, L⟩ w' (LV.out w' hb))
  have HF2 := Lib.hid (fun w' (hb : Below w.heap.size w w') => few19 _ ⟨q2, u2, h2, nx2, M⟩ w' (LV2.out w' hb))
  have HA := Lib.hid (fun w => awake19 ldp w)
  dsimp only at HF1 HF2
  obtain ⟨f1, hf1⟩ : ∃ f, decide (L.length ≤ 30) = f := ⟨_, rfl⟩
  obtain ⟨f2, hf2⟩ : ∃ f, decide (M.length ≤ 30) = f := ⟨_, rfl⟩
  rw [hf1] at HF1
  rw [hf2] at HF2
  by_cases hall : f1 = true ∧ f2 = true ∧ bm ≤ 2000
  case neg =>
    clear hl hl2 hb hnm hf1 hf2 i1 i2 i3 i4
    rcases f1 with _ | _
    · clear hall
      go_enter Try.func10, Try.ntmps10
      go_wp2_with (first
        | ((with_reducible refine box_row (o := ⟨some 3, _, _, _, _, _⟩) rfl _ _ rfl (ldC q u h' nx a n c) rfl ?_); intro w1 hr hb hz; have RA1 := Lib.hid hr; have B1 := Lib.hid hb; clear hr hb hz)
        | ((with_reducible refine box_row (o := ⟨some 4, _, _, _, _, _⟩) rfl _ _ rfl (ldC q2 u2 h2 nx2 a2 n2 c2) rfl ?_); intro w2 hr hb hz; have RB2 := Lib.hid hr; have RA2 := Lib.hid (RA1.out.below hb RA1.out.lt); have B2 := Lib.hid (B1.out.trans (hb.mono B1.out.size)); clear hr hb hz)
        | ((with_reducible refine load_row (o := ⟨some 12, _, _, _, _, _⟩) rfl _ _ rfl w.heap.size ?_ _ (ldC q u h' nx a n c) _ RA2.out Try.underlying50 rfl ?_ ?_); (focus go_simp); (focus (exact LZS.out)))
        | (go_at_call 40; (with_reducible refine (HF1.out w2 B2.out).mono ?_); rintro x w3 ⟨rfl, hb⟩; have RA3 := Lib.hid (RA2.out.below hb RA2.out.lt); have RB3 := Lib.hid (RB2.out.below hb RB2.out.lt); have B3 := Lib.hid (B2.out.trans (hb.mono B2.out.size)); clear hb)
        | (go_at_call 43; (with_reducible refine (HA.out w3).mono ?_); rintro x wb ⟨rfl, hb⟩; have Bb := Lib.hid (B3.out.trans (hb.mono B3.out.size)); clear hb))
      go_ret
      exact ⟨rfl, Bb.out⟩
    rcases f2 with _ | _
    · clear hall
      go_enter Try.func10, Try.ntmps10
      go_wp2_with (first
        | ((with_reducible refine box_row (o := ⟨some 3, _, _, _, _, _⟩) rfl _ _ rfl (ldC q u h' nx a n c) rfl ?_); intro w1 hr hb hz; have RA1 := Lib.hid hr; have B1 := Lib.hid hb; clear hr hb hz)
        | ((with_reducible refine box_row (o := ⟨some 4, _, _, _, _, _⟩) rfl _ _ rfl (ldC q2 u2 h2 nx2 a2 n2 c2) rfl ?_); intro w2 hr hb hz; have RB2 := Lib.hid hr; have RA2 := Lib.hid (RA1.out.below hb RA1.out.lt); have B2 := Lib.hid (B1.out.trans (hb.mono B1.out.size)); clear hr hb hz)
        | ((with_reducible refine load_row (o := ⟨some 12, _, _, _, _, _⟩) rfl _ _ rfl w.heap.size ?_ _ (ldC q u h' nx a n c) _ RA2.out Try.underlying50 rfl ?_ ?_); (focus go_simp); (focus (exact LZS.out)))
        | (go_at_call 40; (with_reducible refine (HF1.out w2 B2.out).mono ?_); rintro x w3 ⟨rfl, hb⟩; have RA3 := Lib.hid (RA2.out.below hb RA2.out.lt); have RB3 := Lib.hid (RB2.out.below hb RB2.out.lt); have B3 := Lib.hid (B2.out.trans (hb.mono B2.out.size)); clear hb)
        | ((with_reducible refine load_rowg (o := ⟨some 16, _, _, _, _, _⟩) 3 false 15 rfl _ _ rfl w1.heap.size _ (ldC q2 u2 h2 nx2 a2 n2 c2) _ RB3.out Try.underlying50 rfl ?_ ?_ ?_ ?_ ?_); (focus rfl); (focus (first | (go_simp; done) | (go_simp; rfl))); (focus (first | (go_simp; done) | (go_simp; rfl))); (focus (exact LZS.out)))
        | (go_at_call 40; (with_reducible refine (HF2.out w3 B3.out).mono ?_); rintro x w4 ⟨rfl, hb⟩; have RA4 := Lib.hid (RA3.out.below hb RA3.out.lt); have RB4 := Lib.hid (RB3.out.below hb RB3.out.lt); have B4 := Lib.hid (B3.out.trans (hb.mono B3.out.size)); clear hb)
        | (go_at_call 43; (with_reducible refine (HA.out w4).mono ?_); rintro x wb ⟨rfl, hb⟩; have Bb := Lib.hid (B4.out.trans (hb.mono B4.out.size)); clear hb))
      go_ret
      exact ⟨rfl, Bb.out⟩
    have g4 : (2000 : Int) < (bm : Int) := by simp at hall; omega
    clear hall
    go_enter Try.func10, Try.ntmps10
    go_wp2_with (first
      | ((with_reducible refine box_row (o := ⟨some 3, _, _, _, _, _⟩) rfl _ _ rfl (ldC q u h' nx a n c) rfl ?_); intro w1 hr hb hz; have RA1 := Lib.hid hr; have B1 := Lib.hid hb; clear hr hb hz)
      | ((with_reducible refine box_row (o := ⟨some 4, _, _, _, _, _⟩) rfl _ _ rfl (ldC q2 u2 h2 nx2 a2 n2 c2) rfl ?_); intro w2 hr hb hz; have RB2 := Lib.hid hr; have RA2 := Lib.hid (RA1.out.below hb RA1.out.lt); have B2 := Lib.hid (B1.out.trans (hb.mono B1.out.size)); clear hr hb hz)
      | ((with_reducible refine load_row (o := ⟨some 12, _, _, _, _, _⟩) rfl _ _ rfl w.heap.size ?_ _ (ldC q u h' nx a n c) _ RA2.out Try.underlying50 rfl ?_ ?_); (focus go_simp); (focus (exact LZS.out)))
      | (go_at_call 40; (with_reducible refine (HF1.out w2 B2.out).mono ?_); rintro x w3 ⟨rfl, hb⟩; have RA3 := Lib.hid (RA2.out.below hb RA2.out.lt); have RB3 := Lib.hid (RB2.out.below hb RB2.out.lt); have B3 := Lib.hid (B2.out.trans (hb.mono B2.out.size)); clear hb)
      | ((with_reducible refine load_rowg (o := ⟨some 16, _, _, _, _, _⟩) 3 false 15 rfl _ _ rfl w1.heap.size _ (ldC q2 u2 h2 nx2 a2 n2 c2) _ RB3.out Try.underlying50 rfl ?_ ?_ ?_ ?_ ?_); (focus rfl); (focus (first | (go_simp; done) | (go_simp; rfl))); (focus (first | (go_simp; done) | (go_simp; rfl))); (focus (exact LZS.out)))
      | (go_at_call 40; (with_reducible refine (HF2.out w3 B3.out).mono ?_); rintro x w4 ⟨rfl, hb⟩; have RA4 := Lib.hid (RA3.out.below hb RA3.out.lt); have RB4 := Lib.hid (RB3.out.below hb RB3.out.lt); have B4 := Lib.hid (B3.out.trans (hb.mono B3.out.size)); clear hb)
      | (go_at_call 43; (with_reducible refine (HA.out w4).mono ?_); rintro x wb ⟨rfl, hb⟩; have Bb := Lib.hid (B4.out.trans (hb.mono B4.out.size)); clear hb))
    go_ret
    exact ⟨rfl, Bb.out⟩
  obtain ⟨rfl, rfl, g3⟩ := hall
  have hn30 : n ≤ 30 := by have := of_decide_eq_true hf1; rw [HL.out] at this; exact this
  have g4 : ¬ (2000 : Int) < (bm : Int) := by omega
  have hfit := readLd_fit lb 0
  obtain ⟨Z, lz, ez, hz⟩ : ∃ x y z, readLd lb 0 = (x, y, z) := ⟨_, _, _, rfl⟩
  have HPR := Lib.hid (fun p w' (hp : RP w' p lb 0) => pread p lb 0 w' hp)
  have HYR := Lib.hid (fun p w' (hp : RR w' p lb 0) => yread p lb 0 w' hp)
  simp only [hz] at HPR HYR
  rw [hz] at hfit
  dsimp only at hfit
  obtain ⟨zq, zu, zh, zn, ZL⟩ := Z
  dsimp only at HPR HYR hfit
  obtain ⟨m, hm⟩ : ∃ m, ZL.length = m := ⟨_, rfl⟩
  simp only [hm] at HPR HYR
  have HM := Lib.hid hm
  have HFT := Lib.hid (show ∀ x ∈ ZL, x.fit from hfit)
  obtain ⟨R, hR⟩ : ∃ R, lb ++ putLd ⟨q, u, h', nx, L⟩ = R := ⟨_, rfl⟩
  have HP1 := Lib.hid (fun w' (hw : Below w.heap.size w w') => pput ba bm bc lb q u h' nx a n c L w' (hb.mono hw) (by omega) (hl.mono hdOk hw) (by omega) hnm i1 i2 i3 i4)
  have HP2 := Lib.hid (fun w' (hw : Below w.heap.size w w') => yput ba bm bc lb q u h' nx a n c L w' (hb.mono hw) (by omega) (hl.mono hdOk hw) (by omega) hnm i1 i2 i3 i4)
  have HP3 := Lib.hid (fun w' (hw : Below w.heap.size w w') => pput none 0 0 [] q u h' nx a n c L w' rd_nil_ld (by omega) (hl.mono hdOk hw) (by omega) hnm i1 i2 i3 i4)
  simp only [hR] at HP1 HP2
  simp only [List.nil_append] at HP3
  obtain ⟨T, hT⟩ : ∃ T, putLd ⟨q, u, h', nx, L⟩ = T := ⟨_, rfl⟩
  have hTl : T.length ≤ 100000000 := by
    have h1 := codeI_len [q, u, h', nx] (by intro z hz; simp at hz; rcases hz with rfl | rfl | rfl | rfl; exact i1.2; exact i2.2; exact i3.2; exact i4.2)
    have h2 := codeH_all L (fun s hs => ⟨hl.hfit s hs, hnm s hs⟩)
    have h3 := P.enc_len L.length (by rw [HL.out]; omega)
    have h4 : L.length * 2000054 ≤ 30 * 2000054 := Nat.mul_le_mul_right _ (by rw [HL.out]; exact hn30)
    rw [← hT]; unfold putLd
    simp only [List.length_append, List.length_cons, List.length_nil] at h1 ⊢
    omega
  obtain ⟨V, hV⟩ : ∃ V : Bool, (V = true ↔ (⟨q, u, h', nx, L⟩ : Ld) = ⟨q2, u2, h2, nx2, M⟩) := by
    by_cases hx : (⟨q, u, h', nx, L⟩ : Ld) = ⟨q2, u2, h2, nx2, M⟩
    · exact ⟨true, by simp [hx]⟩
    · exact ⟨false, by simp [hx]⟩
  have HE1 := Lib.hid (fun w' (hw : Below w.heap.size w w') => psame _ _ _ _ w' V (LV.out w' hw) (LV2.out w' hw) hV)
  have HE2 := Lib.hid (fun w' (hw : Below w.heap.size w w') => ysame q u h' nx a n c L q2 u2 h2 nx2 a2 n2 c2 M w' (hl.mono hdOk hw) (hl2.mono hdOk hw) V hV)
  have HCK := Lib.hid (fun w' (hw : Below w.heap.size w w') => pcheck _ _ w' ⟨LV.out w' hw, i1, i2, i3, i4⟩)
  obtain ⟨ok, hok⟩ : ∃ b, Ld.ok ⟨q, u, h', nx, L⟩ = b := ⟨_, rfl⟩
  rw [hok] at HCK
  rw [hT] at HP3
  have HRD : ok = true → Hid (∀ p w', RP w' p T 0 → Calls Try.prog 52 #[.pointer (some ⟨p, 0, none⟩)] w' fun x w2 => ∃ v, x = .returned v ∧ LdV w2 v ⟨q, u, h', nx, L⟩ ∧ RP w2 p [] 0 ∧ Gw p w' w2) := fun e => Lib.hid (by
    intro p w' hp
    have hro := ld_read_put (ok_ld.1 (by rw [hok]; exact e))
    rw [hT] at hro
    refine (pread p T 0 w' hp).mono ?_
    rw [hro]
    rintro x w2 ⟨a', c', rfl, hN, hP, hG⟩
    exact ⟨_, rfl, ⟨_, _, _, rfl, hd_out (hN.lso hdOk) rfl hl.hfit⟩, hP, hG⟩)
  have HTL := Lib.hid hTl
  clear hl hl2 hb hnm hf1 hf2 i1 i2 i3 i4 hfit hz hm hR hT hTl hV hok
  go_enter Try.func10, Try.ntmps10
  go_wp2_with (first
    | ((with_reducible refine box_row (o := ⟨some 3, _, _, _, _, _⟩) rfl _ _ rfl (ldC q u h' nx a n c) rfl ?_); intro w1 hr hb hz; have RA1 := Lib.hid hr; have B1 := Lib.hid hb; clear hr hb hz)
    | ((with_reducible refine box_row (o := ⟨some 4, _, _, _, _, _⟩) rfl _ _ rfl (ldC q2 u2 h2 nx2 a2 n2 c2) rfl ?_); intro w2 hr hb hz; have RB2 := Lib.hid hr; have RA2 := Lib.hid (RA1.out.below hb RA1.out.lt); have B2 := Lib.hid (B1.out.trans (hb.mono B1.out.size)); clear hr hb hz)
    | ((with_reducible refine load_row (o := ⟨some 12, _, _, _, _, _⟩) rfl _ _ rfl w.heap.size ?_ _ (ldC q u h' nx a n c) _ RA2.out Try.underlying50 rfl ?_ ?_); (focus go_simp); (focus (exact LZS.out)))
    | (go_at_call 40; (with_reducible refine (HF1.out w2 B2.out).mono ?_); rintro x w3 ⟨rfl, hb⟩; have RA3 := Lib.hid (RA2.out.below hb RA2.out.lt); have RB3 := Lib.hid (RB2.out.below hb RB2.out.lt); have B3 := Lib.hid (B2.out.trans (hb.mono B2.out.size)); clear hb)
    | ((with_reducible refine load_rowg (o := ⟨some 16, _, _, _, _, _⟩) 3 false 15 rfl _ _ rfl w1.heap.size _ (ldC q2 u2 h2 nx2 a2 n2 c2) _ RB3.out Try.underlying50 rfl ?_ ?_ ?_ ?_ ?_); (focus rfl); (focus (first | (go_simp; done) | (go_simp; rfl))); (focus (first | (go_simp; done) | (go_simp; rfl))); (focus (exact LZS.out)))
    | (go_at_call 40; (with_reducible refine (HF2.out w3 B3.out).mono ?_); rintro x w4 ⟨rfl, hb⟩; have RA4 := Lib.hid (RA3.out.below hb RA3.out.lt); have RB4 := Lib.hid (RB3.out.below hb RB3.out.lt); have B4 := Lib.hid (B3.out.trans (hb.mono B3.out.size)); clear hb)
    | (go_at_call 27; (with_reducible refine (popen ba bm bc lb w4 (HB.out.mono B4.out) (by omega)).mono ?_); rintro x w5 ⟨p, rfl, hp1, hp2, hb⟩; have P5 := Lib.hid hp2; have PW := Lib.hid hp1; have RA5 := Lib.hid (RA4.out.below hb RA4.out.lt); have RB5 := Lib.hid (RB4.out.below hb RB4.out.lt); have B5 := Lib.hid (B4.out.trans (hb.mono B4.out.size)); clear hp1 hp2 hb)
    | (go_at_call 28; (with_reducible refine (ropen ba bm bc lb w5 (HB.out.mono B5.out) (by omega)).mono ?_); rintro x w6 ⟨qq, rfl, hq1, hq2, hb⟩; have C6 := Lib.hid (show LC w w6 w.heap.size w1.heap.size (ldC q u h' nx a n c) (ldC q2 u2 h2 nx2 a2 n2 c2) p qq lb 0 lb 0 from ⟨RA5.out.below hb RA5.out.lt, RB5.out.below hb RB5.out.lt, P5.out.mono hb, hq2, B5.out.trans (hb.mono B5.out.size), Nat.le_trans B4.out.size PW.out, Nat.le_trans B5.out.size hq1, Nat.ne_of_lt (Nat.lt_of_lt_of_le RA4.out.lt PW.out), Nat.ne_of_lt (Nat.lt_of_lt_of_le RB4.out.lt PW.out), Nat.ne_of_lt (Nat.lt_of_lt_of_le RA5.out.lt hq1), Nat.ne_of_lt (Nat.lt_of_lt_of_le RB5.out.lt hq1)⟩); clear hq1 hq2 hb)
    | (go_at_call 52; (with_reducible refine (HPR.out p w6 C6.out.P).mono ?_); rintro x w7 ⟨a7, c7, rfl, hN, hP, hg⟩; have N7 := Lib.hid hN; have C7 := Lib.hid (C6.out.rdP hP hg); clear hN hP hg)
    | (go_at_call 53; (with_reducible refine (HYR.out qq w7 C7.out.Q).mono ?_); rintro x w8 ⟨a8, c8, rfl, hN, hQ, hg⟩; have M8 := Lib.hid hN; have N8 := Lib.hid (LsN.rr (by decide) hdNb N7.out C7.out.Q hg); have C8 := Lib.hid (C7.out.rdQ hQ hg); clear hN hQ hg)
    | ((with_reducible refine alloc_row (o := ⟨some 9, _, _, _, _, _⟩) rfl _ rfl _ LZ.out ?_); intro w9 hr hb hz; have X9 := Lib.hid hr; have M9 := Lib.hid (M8.out.kept hb); have N9 := Lib.hid (N8.out.kept hb); have C9 := Lib.hid (C8.out.grow hb); have BX9 := Lib.hid hb; clear hr hb hz)
    | ((with_reducible refine alloc_row (o := ⟨some 10, _, _, _, _, _⟩) rfl _ rfl _ LZ.out ?_); intro wA hr hb hz; have YA := Lib.hid hr; have XA := Lib.hid (X9.out.below hb X9.out.lt); have MA := Lib.hid (M9.out.kept hb); have NA := Lib.hid (N9.out.kept hb); have CA := Lib.hid (C9.out.grow hb); have BXA := Lib.hid (BX9.out.trans (hb.mono BX9.out.size)); clear hr hb hz)
    | ((with_reducible refine store_row (o := ⟨none, _, _, _, _, _⟩) rfl _ (.tmp 9) _ rfl w8.heap.size (ldC zq zu zh zn a7 m c7) ?_ ?_ 50 _ XA.out ?_ ?_ ?_ ?_); (focus go_simp); (focus (first | (go_simp; done) | (go_simp; rfl))); (focus (exact LZS.out)); (focus rfl); (focus (exact ld_one _ _ _ _ _ _ _)); intro wB hr hu; have XB := Lib.hid hr; have YB := Lib.hid (YA.out.upd hu (Nat.ne_of_gt X9.out.lt)); have BXB := Lib.hid (BXA.out.trans (hu.below (Nat.le_refl _))); clear hr hu)
    | ((with_reducible refine store_row (o := ⟨none, _, _, _, _, _⟩) rfl _ (.tmp 10) _ rfl w9.heap.size (ldC zq zu zh zn a8 m c8) ?_ ?_ 50 _ YB.out ?_ ?_ ?_ ?_); (focus go_simp); (focus (first | (go_simp; done) | (go_simp; rfl))); (focus (exact LZS.out)); (focus rfl); (focus (exact ld_one _ _ _ _ _ _ _)); intro wC hr hu; have YC := Lib.hid hr; have XC := Lib.hid (XB.out.upd hu (Nat.ne_of_lt X9.out.lt)); have BXC := Lib.hid (BXB.out.trans (hu.below BX9.out.size)); have CC := Lib.hid (C8.out.grow BXC.out); have NC := Lib.hid (N8.out.kept BXC.out); have MC := Lib.hid (M8.out.kept BXC.out); clear hr hu))
  refine region_h (fun v => Below wC.heap.size wC v) (by kernel_rfl) (by kernel_rfl) (Below.refl _ _).drew ?_
  obtain ⟨d0, hd0⟩ : ∃ wd, wC.drew = wd := ⟨_, rfl⟩
  have J0 : Hid (Below wC.heap.size wC d0) := Lib.hid (by rw [← hd0]; exact (Below.refl _ _).drew)
  rw [hd0]
  clear hd0
  (refine h_read 0 rfl (by kernel_rfl) (by kernel_rfl) (h_free rfl) ?_ ?_ ?_; rotate_left; (focus (intro v hv; go_simp; rfl)); go_simp)
  (refine h_read 1 rfl (by kernel_rfl) (by kernel_rfl) (h_free rfl) ?_ ?_ ?_; rotate_left; (focus (intro v hv; refine run_cells 50 (.tmp 3) ?_ w.heap.size 0 ?_ (ldC q u h' nx a n c) _ (fun j' u' hj => by rw [hv.cell (p := ⟨w.heap.size, 0 + j', none⟩) CC.out.rA.lt, Nat.zero_add, CC.out.rA.cellV]; exact hj) Try.underlying50 rfl ld_size; (focus rfl); go_simp)); go_simp)
  (refine h_read 3 rfl (by kernel_rfl) (by kernel_rfl) (h_free rfl) ?_ ?_ ?_; rotate_left; (focus (intro v hv; go_simp; rfl)); go_simp)
  (refine h_read 4 rfl (by kernel_rfl) (by kernel_rfl) (h_free rfl) ?_ ?_ ?_; rotate_left; (focus (intro v hv; refine run_cells 50 (.tmp 3) ?_ w.heap.size 0 ?_ (ldC q u h' nx a n c) _ (fun j' u' hj => by rw [hv.cell (p := ⟨w.heap.size, 0 + j', none⟩) CC.out.rA.lt, Nat.zero_add, CC.out.rA.cellV]; exact hj) Try.underlying50 rfl ld_size; (focus rfl); go_simp)); go_simp)
  (refine h_call 2 rfl (by kernel_rfl) (h_free rfl) 54 ?_ ?_ ?_; rotate_left; (focus (go_simp; rfl)))
  refine (HP1.out d0 (CC.out.B.trans (J0.out.mono CC.out.B.size))).mono ?_
  rintro z d1 ⟨v1, rfl, hf, hb⟩
  have J1 := Lib.hid (J0.out.trans (hb.mono J0.out.size))
  have F1 := Lib.hid hf
  clear hf
  clear hb
  refine ⟨_, rfl, J1.out, ?_⟩
  go_simp
  (refine h_call 5 rfl (by kernel_rfl) (h_free rfl) 55 ?_ ?_ ?_; rotate_left; (focus (go_simp; rfl)))
  refine (HP2.out d1 (CC.out.B.trans (J1.out.mono CC.out.B.size))).mono ?_
  rintro z d2 ⟨v2, rfl, hf, hb⟩
  have J2 := Lib.hid (J1.out.trans (hb.mono J1.out.size))
  obtain ⟨rl, hrl⟩ : ∃ rl, R.length = rl := ⟨_, rfl⟩
  obtain ⟨y2, e2, hv2, hr2⟩ := hf.form' rl hrl
  obtain ⟨y1, e1, hv1, hr1⟩ := (F1.out.kept hb).form' rl hrl
  subst hv1 hv2
  have K1 := Lib.hid hr1
  have K2 := Lib.hid hr2
  clear hf hr1 hr2 hrl
  clear hb
  refine ⟨_, rfl, J2.out, ?_⟩
  go_simp
  (refine h_call 6 rfl (by kernel_rfl) (h_free rfl) 31 ?_ ?_ ?_; rotate_left; (focus (go_simp; rfl)))
  refine (sequal y1 y2 rl rl e1 e2 R R d2 K1.out K2.out).mono ?_
  rw [decide_eq_true rfl]
  rintro z d3 ⟨rfl, hq⟩
  have J3 := Lib.hid (J2.out.trans ((hq.below d2.heap.size).mono J2.out.size))
  clear hq
  refine ⟨_, rfl, J3.out, ?_⟩
  go_simp
  (refine h_read 7 rfl (by kernel_rfl) (by kernel_rfl) (h_free rfl) ?_ ?_ ?_; rotate_left; (focus (intro v hv; go_simp; rfl)); go_simp)
  (refine h_read 8 rfl (by kernel_rfl) (by kernel_rfl) (h_free rfl) ?_ ?_ ?_; rotate_left; (focus (intro v hv; go_simp; rfl)); go_simp)
  (refine h_read 9 rfl (by kernel_rfl) (by kernel_rfl) ?_ ?_ ?_ ?_; (focus (go_simp; done)); rotate_left; (focus (intro v hv; refine run_cells 50 (.tmp 9) ?_ w8.heap.size 0 ?_ (ldC zq zu zh zn a7 m c7) _ (fun j' u' hj => by rw [hv.cell (p := ⟨w8.heap.size, 0 + j', none⟩) XC.out.lt, Nat.zero_add, XC.out.cellV]; exact hj) Try.underlying50 rfl ld_size; (focus rfl); go_simp)); go_simp)
  (refine h_read 10 rfl (by kernel_rfl) (by kernel_rfl) ?_ ?_ ?_ ?_; (focus (go_simp; done)); rotate_left; (focus (intro v hv; refine run_cells 50 (.tmp 10) ?_ w9.heap.size 0 ?_ (ldC zq zu zh zn a8 m c8) _ (fun j' u' hj => by rw [hv.cell (p := ⟨w9.heap.size, 0 + j', none⟩) YC.out.lt, Nat.zero_add, YC.out.cellV]; exact hj) Try.underlying50 rfl ld_size; (focus rfl); go_simp)); go_simp)
  (refine h_call 11 rfl (by kernel_rfl) ?_ 56 ?_ ?_ ?_; (focus (go_simp; done)); rotate_left; (focus (go_simp; rfl)))
  refine (ysame zq zu zh zn a7 m c7 ZL zq zu zh zn a8 m c8 ZL d3 (hd_out ((NC.out.kept J3.out).lso hdOk) HM.out HFT.out) (hd_out ((MC.out.kept J3.out).lso hdOk) HM.out HFT.out) true (by simp)).mono ?_
  rintro z d4 ⟨rfl, hb⟩
  have J4 := Lib.hid (J3.out.trans (hb.mono J3.out.size))
  clear hb
  refine ⟨_, rfl, J4.out, ?_⟩
  go_simp
  (refine h_read 12 rfl (by kernel_rfl) (by kernel_rfl) ?_ ?_ ?_ ?_; (focus (go_simp; done)); rotate_left; (focus (intro v hv; go_simp; rfl)); go_simp)
  (refine h_read 13 rfl (by kernel_rfl) (by kernel_rfl) (h_free rfl) ?_ ?_ ?_; rotate_left; (focus (intro v hv; go_simp; rfl)); go_simp)
  (refine h_read 14 rfl (by kernel_rfl) (by kernel_rfl) (h_free rfl) ?_ ?_ ?_; rotate_left; (focus (intro v hv; go_simp; rfl)); go_simp)
  (refine h_read 15 rfl (by kernel_rfl) (by kernel_rfl) ?_ ?_ ?_ ?_; (focus (go_simp; done)); rotate_left; (focus (intro v hv; go_simp; rfl)); go_simp)
  (refine h_read 17 rfl (by kernel_rfl) (by kernel_rfl) ?_ ?_ ?_ ?_; (focus (go_simp; done)); rotate_left; (focus (intro v hv; go_simp; rfl)); go_simp)
  (refine h_call 16 rfl (by kernel_rfl) ?_ 34 ?_ ?_ ?_; (focus (go_simp; done)); rotate_left; (focus (go_simp; rfl)))
  refine (perr p lz ez d4 (CC.out.P.mono J4.out)).mono ?_
  rintro z wz ⟨rfl, rfl⟩
  refine ⟨_, rfl, J4.out, ?_⟩
  go_simp
  (refine h_call 18 rfl (by kernel_rfl) ?_ 35 ?_ ?_ ?_; (focus (go_simp; done)); rotate_left; (focus (go_simp; rfl)))
  refine (rerr qq lz ez d4 (CC.out.Q.mono J4.out)).mono ?_
  rintro z wz ⟨rfl, rfl⟩
  refine ⟨_, rfl, J4.out, ?_⟩
  go_simp
  (refine h_read 19 rfl (by kernel_rfl) (by kernel_rfl) ?_ ?_ ?_ ?_; (focus (go_simp; done)); rotate_left; (focus (intro v hv; go_simp; rfl)); go_simp)
  (refine h_read 20 rfl (by kernel_rfl) (by kernel_rfl) (h_free rfl) ?_ ?_ ?_; rotate_left; (focus (intro v hv; go_simp; rfl)); go_simp)
  (refine h_read 21 rfl (by kernel_rfl) (by kernel_rfl) (h_free rfl) ?_ ?_ ?_; rotate_left; (focus (intro v hv; go_simp; rfl)); go_simp)
  (refine h_read 22 rfl (by kernel_rfl) (by kernel_rfl) ?_ ?_ ?_ ?_; (focus (go_simp; done)); rotate_left; (focus (intro v hv; go_simp; rfl)); go_simp)
  (refine h_read 24 rfl (by kernel_rfl) (by kernel_rfl) ?_ ?_ ?_ ?_; (focus (go_simp; done)); rotate_left; (focus (intro v hv; go_simp; rfl)); go_simp)
  (refine h_call 23 rfl (by kernel_rfl) ?_ 36 ?_ ?_ ?_; (focus (go_simp; done)); rotate_left; (focus (go_simp; rfl)))
  refine (pleft p lz ez d4 (CC.out.P.mono J4.out)).mono ?_
  rintro z wz ⟨rfl, rfl⟩
  refine ⟨_, rfl, J4.out, ?_⟩
  go_simp
  (refine h_call 25 rfl (by kernel_rfl) ?_ 37 ?_ ?_ ?_; (focus (go_simp; done)); rotate_left; (focus (go_simp; rfl)))
  refine (rleft qq lz ez d4 (CC.out.Q.mono J4.out)).mono ?_
  rintro z wz ⟨rfl, rfl⟩
  refine ⟨_, rfl, J4.out, ?_⟩
  go_simp
  (refine h_read 26 rfl (by kernel_rfl) (by kernel_rfl) ?_ ?_ ?_ ?_; (focus (go_simp; done)); rotate_left; (focus (intro v hv; go_simp; rfl)); go_simp)
  (refine h_read 27 rfl (by kernel_rfl) (by kernel_rfl) (h_free rfl) ?_ ?_ ?_; rotate_left; (focus (intro v hv; go_simp; rfl)); go_simp)
  (refine h_read 28 rfl (by kernel_rfl) (by kernel_rfl) (h_free rfl) ?_ ?_ ?_; rotate_left; (focus (intro v hv; go_simp; rfl)); go_simp)
  (refine h_read 29 rfl (by kernel_rfl) (by kernel_rfl) ?_ ?_ ?_ ?_; (focus (go_simp; done)); rotate_left; (focus (intro v hv; refine run_cells 50 (.tmp 3) ?_ w.heap.size 0 ?_ (ldC q u h' nx a n c) _ (fun j' u' hj => by rw [hv.cell (p := ⟨w.heap.size, 0 + j', none⟩) CC.out.rA.lt, Nat.zero_add, CC.out.rA.cellV]; exact hj) Try.underlying50 rfl ld_size; (focus rfl); go_simp)); go_simp)
  (refine h_read 30 rfl (by kernel_rfl) (by kernel_rfl) ?_ ?_ ?_ ?_; (focus (go_simp; done)); rotate_left; (focus (intro v hv; refine run_cells 50 (.tmp 4) ?_ w1.heap.size 0 ?_ (ldC q2 u2 h2 nx2 a2 n2 c2) _ (fun j' u' hj => by rw [hv.cell (p := ⟨w1.heap.size, 0 + j', none⟩) CC.out.rB.lt, Nat.zero_add, CC.out.rB.cellV]; exact hj) Try.underlying50 rfl ld_size; (focus rfl); go_simp)); go_simp)
  (refine h_read 32 rfl (by kernel_rfl) (by kernel_rfl) ?_ ?_ ?_ ?_; (focus (go_simp; done)); rotate_left; (focus (intro v hv; refine run_cells 50 (.tmp 3) ?_ w.heap.size 0 ?_ (ldC q u h' nx a n c) _ (fun j' u' hj => by rw [hv.cell (p := ⟨w.heap.size, 0 + j', none⟩) CC.out.rA.lt, Nat.zero_add, CC.out.rA.cellV]; exact hj) Try.underlying50 rfl ld_size; (focus rfl); go_simp)); go_simp)
  (refine h_read 33 rfl (by kernel_rfl) (by kernel_rfl) ?_ ?_ ?_ ?_; (focus (go_simp; done)); rotate_left; (focus (intro v hv; refine run_cells 50 (.tmp 4) ?_ w1.heap.size 0 ?_ (ldC q2 u2 h2 nx2 a2 n2 c2) _ (fun j' u' hj => by rw [hv.cell (p := ⟨w1.heap.size, 0 + j', none⟩) CC.out.rB.lt, Nat.zero_add, CC.out.rB.cellV]; exact hj) Try.underlying50 rfl ld_size; (focus rfl); go_simp)); go_simp)
  (refine h_call 31 rfl (by kernel_rfl) ?_ 50 ?_ ?_ ?_; (focus (go_simp; done)); rotate_left; (focus (go_simp; rfl)))
  refine (HE1.out d4 (CC.out.B.trans (J4.out.mono CC.out.B.size))).mono ?_
  rintro z d5 ⟨rfl, hb⟩
  have J5 := Lib.hid (J4.out.trans (hb.mono J4.out.size))
  clear hb
  refine ⟨_, rfl, J5.out, ?_⟩
  go_simp
  (refine h_call 34 rfl (by kernel_rfl) ?_ 56 ?_ ?_ ?_; (focus (go_simp; done)); rotate_left; (focus (go_simp; rfl)))
  refine (HE2.out d5 (CC.out.B.trans (J5.out.mono CC.out.B.size))).mono ?_
  rintro z d6 ⟨rfl, hb⟩
  have J6 := Lib.hid (J5.out.trans (hb.mono J5.out.size))
  clear hb
  refine ⟨_, rfl, J6.out, ?_⟩
  go_simp
  (refine h_read 35 rfl (by kernel_rfl) (by kernel_rfl) ?_ ?_ ?_ ?_; (focus (go_simp; done)); rotate_left; (focus (intro v hv; go_simp; rfl)); go_simp)
  (refine h_read 36 rfl (by kernel_rfl) (by kernel_rfl) (h_free rfl) ?_ ?_ ?_; rotate_left; (focus (intro v hv; go_simp; rfl)); go_simp)
  refine h_done (by kernel_rfl) ?_
  have RAF := Lib.hid (CC.out.rA.below J6.out CC.out.rA.lt)
  have BF := Lib.hid (CC.out.B.trans (J6.out.mono CC.out.B.size))
  clear J0 J1 J2 J3 J4 J5 F1 K1 K2
  go_wp2_with (first
    | ((with_reducible refine load_row (o := ⟨some 71, _, _, _, _, _⟩) rfl _ _ rfl w.heap.size ?_ _ (ldC q u h' nx a n c) _ RAF.out Try.underlying50 rfl ?_ ?_); (focus go_simp); (focus (exact LZS.out)))
    | (go_at_call 54; (with_reducible refine (HP3.out d6 BF.out).mono ?_); rintro x f1 ⟨v1, rfl, hf, hb⟩; obtain ⟨tl, htl⟩ : ∃ k, T.length = k := ⟨_, rfl⟩; obtain ⟨y1, e1, hv1, hr1⟩ := hf.form' tl htl; subst hv1; have K1 := Lib.hid hr1; have TB := Lib.hid (show tl ≤ 100000000 by rw [← htl]; exact HTL.out); have RAG := Lib.hid (RAF.out.below hb RAF.out.lt); have BG := Lib.hid (BF.out.trans (hb.mono BF.out.size)); clear hf hr1 hb htl)
    | (go_at_call 27; (with_reducible refine (popen y1 tl e1 T f1 K1.out (by have := TB.out; omega)).mono ?_); rintro x f2 ⟨pp, rfl, hp1, hp2, hb⟩; have PP := Lib.hid hp2; have PG := Lib.hid hp1; have RAH := Lib.hid (RAG.out.below hb RAG.out.lt); have BH := Lib.hid (BG.out.trans (hb.mono BG.out.size)); clear hp1 hp2 hb))
  refine region_h (fun v => Row v w.heap.size 50 (ldC q u h' nx a n c)) (by kernel_rfl) (by kernel_rfl) (RAH.out.drewN 1) ?_
  have J0 : Hid (Below f2.heap.size f2 f2.drew) := Lib.hid (Below.refl _ _).drew
  obtain ⟨d0, hd0⟩ : ∃ wd, f2.drew = wd := ⟨_, rfl⟩
  rw [hd0] at J0 ⊢
  clear hd0
  have RA0 := Lib.hid (RAH.out.below J0.out RAH.out.lt)
  have PP0 := Lib.hid (PP.out.mono J0.out)
  have B0 := Lib.hid (BH.out.trans (J0.out.mono BH.out.size))
  have PGN := Lib.hid (show w.heap.size ≠ pp from Nat.ne_of_lt (Nat.lt_of_lt_of_le RAG.out.lt PG.out))
  have PGW := Lib.hid (show w.heap.size ≤ pp from Nat.le_trans BG.out.size PG.out)
  cases ok
  · clear HRD
    (refine h_read 0 rfl (by kernel_rfl) (by kernel_rfl) (h_free rfl) ?_ ?_ ?_; rotate_left; (focus (intro v hv; refine run_cells 50 (.tmp 3) ?_ w.heap.size 0 ?_ (ldC q u h' nx a n c) _ (fun j' u' hj => by rw [Nat.zero_add, hv.cellV]; exact hj) Try.underlying50 rfl ld_size; (focus rfl); go_simp)); go_simp)
    (refine h_call 1 rfl (by kernel_rfl) (h_free rfl) 41 ?_ ?_ ?_; rotate_left; (focus (go_simp; rfl)))
    refine (HCK.out d0 B0.out).mono ?_
    rintro z d1 ⟨rfl, hb⟩
    have RA1' := Lib.hid (RA0.out.below hb RA0.out.lt)
    have PP1 := Lib.hid (PP0.out.mono hb)
    have B1' := Lib.hid (B0.out.trans (hb.mono B0.out.size))
    clear hb
    refine ⟨_, rfl, RA1'.out, ?_⟩
    go_simp
    (refine h_read 2 rfl (by kernel_rfl) (by kernel_rfl) (h_free rfl) ?_ ?_ ?_; rotate_left; (focus (intro v hv; go_simp; rfl)); go_simp)
    (refine h_read 3 rfl (by kernel_rfl) (by kernel_rfl) (h_free rfl) ?_ ?_ ?_; rotate_left; (focus (intro v hv; go_simp; rfl)); go_simp)
    (refine h_skip 4 rfl (by kernel_rfl) (by kernel_rfl) ?_ ?_; (focus (go_simp; first | done | (intro h; cases h) | simp)); go_simp)
    (refine h_skip 5 rfl (by kernel_rfl) (by kernel_rfl) ?_ ?_; (focus (go_simp; first | done | (intro h; cases h) | simp)); go_simp)
    (refine h_skip 6 rfl (by kernel_rfl) (by kernel_rfl) ?_ ?_; (focus (go_simp; first | done | (intro h; cases h) | simp)); go_simp)
    (refine h_skip 7 rfl (by kernel_rfl) (by kernel_rfl) ?_ ?_; (focus (go_simp; first | done | (intro h; cases h) | simp)); go_simp)
    (refine h_skip 8 rfl (by kernel_rfl) (by kernel_rfl) ?_ ?_; (focus (go_simp; first | done | (intro h; cases h) | simp)); go_simp)
    (refine h_skip 9 rfl (by kernel_rfl) (by kernel_rfl) ?_ ?_; (focus (go_simp; first | done | (intro h; cases h) | simp)); go_simp)
    (refine h_skip 10 rfl (by kernel_rfl) (by kernel_rfl) ?_ ?_; (focus (go_simp; first | done | (intro h; cases h) | simp)); go_simp)
    (refine h_skip 11 rfl (by kernel_rfl) (by kernel_rfl) ?_ ?_; (focus (go_simp; first | done | (intro h; cases h) | simp)); go_simp)
    (refine h_skip 12 rfl (by kernel_rfl) (by kernel_rfl) ?_ ?_; (focus (go_simp; first | done | (intro h; cases h) | simp)); go_simp)
    (refine h_read 13 rfl (by kernel_rfl) (by kernel_rfl) (h_free rfl) ?_ ?_ ?_; rotate_left; (focus (intro v hv; go_simp; rfl)); go_simp)
    (refine h_read 14 rfl (by kernel_rfl) (by kernel_rfl) (h_free rfl) ?_ ?_ ?_; rotate_left; (focus (intro v hv; go_simp; rfl)); go_simp)
    (refine h_call 15 rfl (by kernel_rfl) ?_ 43 ?_ ?_ ?_; (focus (go_simp; done)); rotate_left; (focus (go_simp; rfl)))
    refine (HA.out d1).mono ?_
    rintro z d9 ⟨rfl, hb⟩
    have RA9 := Lib.hid (RA1'.out.below hb RA1'.out.lt)
    have B9 := Lib.hid (B1'.out.trans (hb.mono B1'.out.size))
    clear hb
    refine ⟨_, rfl, RA9.out, ?_⟩
    go_simp
    (refine h_read 16 rfl (by kernel_rfl) (by kernel_rfl) (h_free rfl) ?_ ?_ ?_; rotate_left; (focus (intro v hv; go_simp; rfl)); go_simp)
    (refine h_read 17 rfl (by kernel_rfl) (by kernel_rfl) (h_free rfl) ?_ ?_ ?_; rotate_left; (focus (intro v hv; go_simp; rfl)); go_simp)
    refine h_done (by kernel_rfl) ?_
    go_wp2_with fail
    go_ret
    exact ⟨by first | rfl | exact one (vbool (by simp)), B9.out⟩
  · (refine h_read 0 rfl (by kernel_rfl) (by kernel_rfl) (h_free rfl) ?_ ?_ ?_; rotate_left; (focus (intro v hv; refine run_cells 50 (.tmp 3) ?_ w.heap.size 0 ?_ (ldC q u h' nx a n c) _ (fun j' u' hj => by rw [Nat.zero_add, hv.cellV]; exact hj) Try.underlying50 rfl ld_size; (focus rfl); go_simp)); go_simp)
    (refine h_call 1 rfl (by kernel_rfl) (h_free rfl) 41 ?_ ?_ ?_; rotate_left; (focus (go_simp; rfl)))
    refine (HCK.out d0 B0.out).mono ?_
    rintro z d1 ⟨rfl, hb⟩
    have RA1' := Lib.hid (RA0.out.below hb RA0.out.lt)
    have PP1 := Lib.hid (PP0.out.mono hb)
    have B1' := Lib.hid (B0.out.trans (hb.mono B0.out.size))
    clear hb
    refine ⟨_, rfl, RA1'.out, ?_⟩
    go_simp
    (refine h_read 2 rfl (by kernel_rfl) (by kernel_rfl) (h_free rfl) ?_ ?_ ?_; rotate_left; (focus (intro v hv; go_simp; rfl)); go_simp)
    (refine h_read 3 rfl (by kernel_rfl) (by kernel_rfl) (h_free rfl) ?_ ?_ ?_; rotate_left; (focus (intro v hv; go_simp; rfl)); go_simp)
    (refine h_read 4 rfl (by kernel_rfl) (by kernel_rfl) ?_ ?_ ?_ ?_; (focus (go_simp; done)); rotate_left; (focus (intro v hv; go_simp; rfl)); go_simp)
    (refine h_read 6 rfl (by kernel_rfl) (by kernel_rfl) ?_ ?_ ?_ ?_; (focus (go_simp; done)); rotate_left; (focus (intro v hv; refine run_cells 50 (.tmp 3) ?_ w.heap.size 0 ?_ (ldC q u h' nx a n c) _ (fun j' u' hj => by rw [Nat.zero_add, hv.cellV]; exact hj) Try.underlying50 rfl ld_size; (focus rfl); go_simp)); go_simp)
    (refine h_call 5 rfl (by kernel_rfl) ?_ 52 ?_ ?_ ?_; (focus (go_simp; done)); rotate_left; (focus (go_simp; rfl)))
    refine ((HRD rfl).out pp d1 PP1.out).mono ?_
    rintro z d2 ⟨v2, rfl, hV2, hP, hg⟩
    have RA2' := Lib.hid (RA1'.out.gw hg PGN.out)
    have V2 := Lib.hid hV2
    have PP2 := Lib.hid hP
    have B2' := Lib.hid (B1'.out.trans (hg.below PGW.out B1'.out.size))
    clear hV2 hP hg
    refine ⟨_, rfl, RA2'.out, ?_⟩
    go_simp
    (refine h_call 7 rfl (by kernel_rfl) ?_ 50 ?_ ?_ ?_; (focus (go_simp; done)); rotate_left; (focus (go_simp; rfl)))
    refine (psame _ _ _ _ d2 true V2.out (LV.out d2 B2'.out) (by simp)).mono ?_
    rintro z d3 ⟨rfl, hb⟩
    have RA3' := Lib.hid (RA2'.out.below hb RA2'.out.lt)
    have PP3 := Lib.hid (PP2.out.mono hb)
    have B3' := Lib.hid (B2'.out.trans (hb.mono B2'.out.size))
    clear hb
    refine ⟨_, rfl, RA3'.out, ?_⟩
    go_simp
    (refine h_read 8 rfl (by kernel_rfl) (by kernel_rfl) ?_ ?_ ?_ ?_; (focus (go_simp; done)); rotate_left; (focus (intro v hv; go_simp; rfl)); go_simp)
    (refine h_read 9 rfl (by kernel_rfl) (by kernel_rfl) ?_ ?_ ?_ ?_; (focus (go_simp; done)); rotate_left; (focus (intro v hv; go_simp; rfl)); go_simp)
    (refine h_call 10 rfl (by kernel_rfl) ?_ 39 ?_ ?_ ?_; (focus (go_simp; done)); rotate_left; (focus (go_simp; rfl)))
    refine (pend pp [] 0 d3 PP3.out).mono ?_
    rw [show endV [] 0 = 0 from rfl]
    rintro z wz ⟨rfl, rfl⟩
    refine ⟨_, rfl, RA3'.out, ?_⟩
    go_simp
    (refine h_read 11 rfl (by kernel_rfl) (by kernel_rfl) ?_ ?_ ?_ ?_; (focus (go_simp; done)); rotate_left; (focus (intro v hv; go_simp; rfl)); go_simp)
    (refine h_read 12 rfl (by kernel_rfl) (by kernel_rfl) ?_ ?_ ?_ ?_; (focus (go_simp; done)); rotate_left; (focus (intro v hv; go_simp; rfl)); go_simp)
    (refine h_read 13 rfl (by kernel_rfl) (by kernel_rfl) (h_free rfl) ?_ ?_ ?_; rotate_left; (focus (intro v hv; go_simp; rfl)); go_simp)
    (refine h_read 14 rfl (by kernel_rfl) (by kernel_rfl) (h_free rfl) ?_ ?_ ?_; rotate_left; (focus (intro v hv; go_simp; rfl)); go_simp)
    (refine h_call 15 rfl (by kernel_rfl) ?_ 43 ?_ ?_ ?_; (focus (go_simp; done)); rotate_left; (focus (go_simp; rfl)))
    refine (HA.out d3).mono ?_
    rintro z d9 ⟨rfl, hb⟩
    have RA9 := Lib.hid (RA3'.out.below hb RA3'.out.lt)
    have B9 := Lib.hid (B3'.out.trans (hb.mono B3'.out.size))
    clear hb
    refine ⟨_, rfl, RA9.out, ?_⟩
    go_simp
    (refine h_read 16 rfl (by kernel_rfl) (by kernel_rfl) (h_free rfl) ?_ ?_ ?_; rotate_left; (focus (intro v hv; go_simp; rfl)); go_simp)
    (refine h_read 17 rfl (by kernel_rfl) (by kernel_rfl) (h_free rfl) ?_ ?_ ?_; rotate_left; (focus (intro v hv; go_simp; rfl)); go_simp)
    refine h_done (by kernel_rfl) ?_
    go_wp2_with fail
    go_ret
    exact ⟨by first | rfl | exact one (vbool (by simp)), B9.out⟩
end Go.Proofs.Ytiopcojkdglapaa.W

namespace Go.Proofs.Ytiopcojkdglapaa.W
open Go Go.ChangeShapes Go.WideShapes Go.ChangeAt Go.RowKit
open Go.Proofs.Ytiopcojkdglapaa.P (enc dec)

theorem bulk_mem19 {H : Type} : ∀ (l : List (DataW H)) (d : DataW H), d ∈ l → Rows.uptoBulk d ≤ Rows.uptoBulkAll l
  | [], _, h => by cases h
  | x :: l, d, h => by
    have ih := bulk_mem19 l d
    simp only [Rows.uptoBulkAll]
    rcases List.mem_cons.1 h with rfl | h
    · omega
    · have := ih h; omega
section
variable {H : Type} {enc : TypeId × Value → H} {w : World} {base : Nat} {held : Bool}
set_option maxRecDepth 100000 in
theorem hd_small {fuel : Nat} {cs : List Value} {x : DataW H × List MemPlace} (h : DataW.trod enc Try.prog w base (fun _ => true) held fuel 52 cs = some x) : ∃ c : Hd, cs = c.cells ∧ c.fit ∧ c.sp.size ≤ Rows.uptoBulk x.1 := by
  obtain ⟨xs, n, hn, hx, hl, hlen, hf⟩ := DataW.trod_struct Try.underlying52 h
  have hcl : Try.prog.cellsOf 52 = 6 := by kernel_rfl
  rw [hcl] at hl
  have f0 := hf 0 _ rfl
  have f1 := hf 1 _ rfl
  have f2 := hf 2 _ rfl
  have f3 := hf 3 _ rfl
  have f4 := hf 4 _ rfl
  have f5 := hf 5 _ rfl
  match cs, hl with
  | [v0, v1, v2, v3, v4, v5], _ =>
    have c1 : Try.prog.cellsOf 3 = 1 := by kernel_rfl
    have c2 : Try.prog.cellsOf 9 = 1 := by kernel_rfl
    match xs, hlen with
    | [x0, x1, x2, x3, x4, x5], _ =>
    simp [c1] at f0 f1 f2 f3 f4
    simp [c1, c2] at f5
    obtain ⟨n0, e0, -, w0⟩ := DataW.trod_int Try.underlying3 f0
    obtain ⟨n1, e1, -, w1⟩ := DataW.trod_int Try.underlying3 f1
    obtain ⟨n2, e2, -, w2⟩ := DataW.trod_int Try.underlying3 f2
    obtain ⟨n3, e3, -, w3⟩ := DataW.trod_int Try.underlying3 f3
    obtain ⟨n4, e4, -, w4⟩ := DataW.trod_int Try.underlying3 f4
    obtain ⟨s, e5, d5, w5⟩ := DataW.trod_string Try.underlying9 f5
    simp at e0 e1 e2 e3 e4 e5
    refine ⟨⟨n0, n1, n2, n3, n4, s⟩, by simp [Hd.cells, e0, e1, e2, e3, e4, e5], ⟨bd w0, bd w1, bd w2, bd w3, bd w4, w5⟩, ?_⟩
    rw [hx, d5]
    have h5 : s.data.toList.length = s.size := rfl
    simp only [List.map_cons, List.map_nil, Rows.uptoBulk, Rows.uptoBulkAll]
    show s.size ≤ _
    omega
/-- a slice of structs that came in reads as a list, each of whose elements is bound by what is read -/
theorem ls_small19 {α : Type} {P : Program} {E : El α} (hE : E.Ok P) (hc : P.cellsOf E.eT = E.k) (sz : α → Nat) (hel : ∀ {fuel : Nat} {cs : List Value} {x : DataW H × List MemPlace}, DataW.trod enc P w base (fun _ => true) held fuel E.eT cs = some x → ∃ y, cs = E.cells y ∧ E.fit w y ∧ sz y ≤ Rows.uptoBulk x.1)
    {fuel : Nat} {cs : List Value} {d : DataW H × List MemPlace} (h : DataW.trod enc P w base (fun _ => true) held fuel E.sT cs = some d) : ∃ a n c L, cs = [.slice a n c] ∧ Ls E w a n c L ∧ ∀ y ∈ L, sz y ≤ Rows.uptoBulk d.1 := by
  rcases Go.Deep.open_slice hE.und h with ⟨hcs, -⟩ | ⟨x, len, cap, m, n, D, P0, hcs, -, hl, hm, hmm, hd, hx⟩
  · exact ⟨none, 0, 0, [], hcs, Ls.nil w, by simp⟩
  · refine ⟨some x, len, cap, ?_⟩
    have hml : len ≤ m := by rw [hmm]; split <;> omega
    have hbk : ∀ i, i < len → Rows.uptoBulk (D i) ≤ Rows.uptoBulk d.1 := fun i hi => by
      have h1 := bulk_mem19 ((List.range len).map D) (D i) (List.mem_map.2 ⟨i, by simpa using hi, rfl⟩)
      rw [hd]
      simp only [Rows.uptoBulk]
      omega
    have each : ∀ i, i < len → ∃ p : α, E.fit w p ∧ (∀ j v, (E.cells p)[j]? = some v → w.cell? ((x.add (i * E.k)).add j) = some v) ∧ sz p ≤ Rows.uptoBulk d.1 := by
      intro i hi
      obtain ⟨cs', h1, h2⟩ := hx i (by omega)
      obtain ⟨y, rfl, hfit, hsz⟩ := hel h2
      rw [hc] at h1
      obtain ⟨_, hlen, hcell⟩ := World.cells?_some h1
      refine ⟨y, hfit, fun j v hj => ?_, Nat.le_trans hsz (hbk i hi)⟩
      have hjk : j < E.k := by rw [← hE.len y]; exact (List.getElem?_eq_some_iff.1 hj).1
      rw [hcell j hjk, hj]
    rcases Nat.eq_zero_or_pos len with h0 | hpos
    · subst h0
      exact ⟨[], hcs, ⟨rfl, by omega, by unfold maxLen at hm; omega, by simp, (fun h => by cases h), .inl rfl⟩, by simp⟩
    obtain ⟨p0, -⟩ := each 0 hpos
    haveI : Inhabited α := ⟨p0⟩
    obtain ⟨q, hq⟩ := Go.Deep.choose_lt each
    refine ⟨(List.range len).map q, hcs, ⟨by simp, hl, by unfold maxLen at hm; omega, ?_, (fun h => by cases h), ?_⟩, ?_⟩
    · intro c hc
      obtain ⟨i, hi, rfl⟩ := List.mem_map.1 hc
      exact (hq i (by simpa using hi)).1
    · right
      obtain ⟨b, off, spot⟩ := x
      have hp0 := hE.pos
      have hl0 := hE.len (q 0)
      obtain ⟨v0, hv0⟩ : ∃ v0, (E.cells (q 0))[0]? = some v0 := ⟨(E.cells (q 0))[0]'(by omega), by simp⟩
      have hcell0 := (hq 0 (by omega)).2.1 0 v0 hv0
      have hspot : spot = none := by simpa [Addr.add] using World.cell?_spot hcell0
      subst hspot
      refine ⟨b, off, rfl, ?_, fun i y hi j v hj => ?_⟩
      · rw [Go.WideShapes.add_plain, Go.WideShapes.add_plain] at hcell0
        exact World.block_lt_of_cell? w _ hcell0
      · have hil : i < len := by have := (List.getElem?_eq_some_iff.1 hi).1; simpa using this
        have hy : y = q i := by simp [hil] at hi; exact hi.symm
        subst hy
        have h1 := (hq i hil).2.1 j v hj
        rw [Go.WideShapes.add_plain, Go.WideShapes.add_plain] at h1
        exact h1
    · intro c hc
      obtain ⟨i, hi, rfl⟩ := List.mem_map.1 hc
      exact (hq i (by simpa using hi)).2.2
set_option maxRecDepth 100000 in
theorem ldx_small {base' : Nat} {v : Value} {d : DataW H} {pl : List MemPlace} (hv : Value.okWide Try.prog w .any base' 50 v) (h : DataW.Trod enc Try.prog w base (fun _ => true) held 50 v d pl) : ∃ x : LdX, v = x.val ∧ LdI w x.val x.l ∧ ∀ s ∈ x.l.L, s.sp.size ≤ Rows.uptoBulk d := by
  obtain ⟨fuel, hf⟩ := h
  obtain ⟨xs, nn, hn, hx, hl, hlen, hf2⟩ := DataW.trod_struct Try.underlying50 hf
  have hcl : Try.prog.cellsOf 50 = 5 := by kernel_rfl
  rw [hcl] at hl
  have f0 := hf2 0 _ rfl
  have f1 := hf2 1 _ rfl
  have f2 := hf2 2 _ rfl
  have f3 := hf2 3 _ rfl
  have f4 := hf2 4 _ rfl
  obtain ⟨cs, hcs⟩ : ∃ cs, v.cells.toList = cs := ⟨_, rfl⟩
  rw [hcs] at hl f0 f1 f2 f3 f4
  match cs, hl with
  | [v0, v1, v2, v3, v4], _ =>
    have c1 : Try.prog.cellsOf 3 = 1 := by kernel_rfl
    have c2 : Try.prog.cellsOf 48 = 1 := by kernel_rfl
    match xs, hlen with
    | [x0, x1, x2, x3, x4], _ =>
    simp [c1] at f0 f1 f2 f3
    simp [c1, c2] at f4
    obtain ⟨n0, e0, -, w0⟩ := DataW.trod_int Try.underlying3 f0
    obtain ⟨n1, e1, -, w1⟩ := DataW.trod_int Try.underlying3 f1
    obtain ⟨n2, e2, -, w2⟩ := DataW.trod_int Try.underlying3 f2
    obtain ⟨n3, e3, -, w3⟩ := DataW.trod_int Try.underlying3 f3
    obtain ⟨a, m, c, L, e4, hL, hs⟩ := ls_small19 hdOk (by kernel_rfl) (fun s => s.sp.size) (fun hx => hd_small hx) f4
    simp at e0 e1 e2 e3 e4
    obtain ⟨arr, rfl, -⟩ := okWide_struct Try.underlying50 hv
    simp [Value.cells] at hcs
    refine ⟨⟨⟨n0, n1, n2, n3, L⟩, a, m, c⟩, ?_, ⟨⟨a, m, c, rfl, hL⟩, bd w0, bd w1, bd w2, bd w3⟩, fun s hm => Nat.le_trans (hs s hm) ?_⟩
    · show Value.agg arr = Value.agg _
      congr 1
      apply Array.ext'
      rw [hcs, e0, e1, e2, e3, e4]
    · have := congrArg Prod.fst hx
      dsimp only at this
      rw [this]
      simp only [List.map_cons, List.map_nil, Rows.uptoBulk, Rows.uptoBulkAll]
      omega
end
theorem law_LedgerCodes (x y : LdX) (ba : Option Addr) (bm bc : Nat) (zs : List Int) (w : World) (h : LdI w x.val x.l ∧ ∀ s ∈ x.l.L, s.sp.size ≤ 1048576) (h' : LdI w y.val y.l) (hb : IsRow .u8 w ba bm bc zs) :
    Calls Try.prog 10 #[x.val, y.val, .slice ba bm bc] w fun e w' => e = .returned (.bool true) ∧ Below w.heap.size w w' :=
  codes_of19 x y ba bm bc _ w h.1 h' (Rd.of_row hb) (fun s hs => Nat.le_trans (h.2 s hs) (by decide))
end Go.Proofs.Ytiopcojkdglapaa.W
