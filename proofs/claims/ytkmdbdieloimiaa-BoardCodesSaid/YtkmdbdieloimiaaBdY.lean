/- LAYER 25 (board): boards as they come in; what was put is read again; the law BoardCodes. -/
import Derived.Test.YtkmdbdieloimiaaBdX
import Derived.Test.YtkmdbdieloimiaaBdQ
import Derived.Test.YtkmdbdieloimiaaLsC
set_option linter.unusedSimpArgs false
set_option linter.unusedVariables false
namespace Go.Proofs.Ytkmdbdieloimiaa.W
open Go Go.ChangeShapes Go.WideShapes Go.ChangeAt Go.RowKit
open Go.Proofs.Ytkmdbdieloimiaa.P (enc dec)
open Go.Proofs.Ytkmdbdieloimiaa.S

/-- a board, and where its shares lie -/
structure BdX where
  b : Bd
  a : Option Addr
  m : Nat
  c : Nat
@[reducible] def BdX.val (x : BdX) : Value := .agg (bdC x.b.cap x.a x.m x.c).toArray
structure BdI (w : World) (x : BdX) : Prop where
  l : Ls shE w x.a x.m x.c x.b.L
  e : SI64 x.b.cap
section
variable {H : Type} {enc : TypeId × Value → H} {w : World} {base : Nat} {held : Bool}
set_option maxRecDepth 100000 in
theorem sh_cells {fuel : Nat} {cs : List Value} {x : DataW H × List MemPlace} (h : DataW.trod enc Try.prog w base (fun _ => true) held fuel 58 cs = some x) : ∃ y : Sh, cs = shE.cells y ∧ y.fit := by
  obtain ⟨xs, n, hn, rfl, hl, hlen, hf⟩ := DataW.trod_struct Try.underlying58 h
  have hcl : Try.prog.cellsOf 58 = 2 := by kernel_rfl
  rw [hcl] at hl
  have f0 := hf 0 _ rfl
  have f1 := hf 1 _ rfl
  match cs, hl with
  | [v0, v1], _ =>
    have c1 : Try.prog.cellsOf 3 = 1 := by kernel_rfl
    match xs, hlen with
    | [x0, x1], _ =>
    simp [c1] at f0
    simp [c1] at f1
    obtain ⟨n0, e0, -, w0⟩ := DataW.trod_int Try.underlying3 f0
    obtain ⟨n1, e1, -, w1⟩ := DataW.trod_int Try.underlying3 f1
    simp at e0 e1
    exact ⟨⟨n0, n1⟩, by simp [Sh.cells, e0, e1], ⟨bd w0, bd w1⟩⟩
set_option maxRecDepth 100000 in
theorem bdx_open {base' : Nat} {v : Value} {d : DataW H} {pl : List MemPlace} (hv : Value.okWide Try.prog w .any base' 25 v) (h : DataW.Trod enc Try.prog w base (fun _ => true) held 25 v d pl) : ∃ x : BdX, v = x.val ∧ BdI w x := by
  obtain ⟨fuel, hf⟩ := h
  obtain ⟨cs, rfl, -⟩ := okWide_struct Try.underlying25 hv
  obtain ⟨xs, n, hn, -, hl, hlen, hf⟩ := DataW.trod_struct Try.underlying25 hf
  have hcl : Try.prog.cellsOf 25 = 2 := by kernel_rfl
  rw [hcl] at hl
  have f0 := hf 0 _ rfl
  have f1 := hf 1 _ rfl
  have c1 : Try.prog.cellsOf 3 = 1 := by kernel_rfl
  have c2 : Try.prog.cellsOf 23 = 1 := by kernel_rfl
  obtain ⟨zs, hzs⟩ : ∃ zs, (Value.agg cs).cells.toList = zs := ⟨_, rfl⟩
  rw [hzs] at hl f0 f1
  match zs, hl with
  | [v0, v1], _ =>
    match xs, hlen with
    | [x0, x1], _ =>
    simp [c1] at f0
    simp [c1, c2] at f1
    obtain ⟨n0, e0, -, w0⟩ := DataW.trod_int Try.underlying3 f0
    obtain ⟨a, m, c, L, e2, hL⟩ := ls_cells shOk (by kernel_rfl) (fun hx => sh_cells hx) f1
    simp at e0 e2
    subst e0 e2
    simp [Value.cells] at hzs
    exact ⟨⟨⟨n0, L⟩, a, m, c⟩, by show Value.agg cs = Value.agg _; congr 1; apply Array.ext'; rw [hzs], hL, bd w0⟩
end
theorem pleftB (p : Nat) (l : List UInt8) (e : Int) (w : World) (h : RP w p l e) :
    Calls Try.prog 23 #[.pointer (some ⟨p, 0, none⟩)] w fun x w' => x = .returned (.int .i64 (l.length : Int)) ∧ w = w' := by
  obtain ⟨a, cap, c0, c1, c2, f1, f2, -, -⟩ := h.cells
  clear h c0 c2 f1 f2
  go_enter Try.func23, Try.ntmps23
  go_wp2
  go_ret
  exact ⟨rfl, rfl⟩
-- ---- there and back
theorem rdSh_back (s : Sh) (t : List UInt8) (h : shOkV s = true) : rdSh (codeS s ++ t) 0 = (s, t, 0) := by
  unfold shOkV at h
  simp only [Bool.and_eq_true, in64_iff] at h
  unfold rdSh codeS codeN
  have e : List.flatMap (fun n : Int => enc n.toNat) [s.ln, s.by'] ++ t = enc s.ln.toNat ++ (enc s.by'.toNat ++ t) := by simp
  rw [e, num_enc 4 s.ln.toNat _ (by omega) (by omega)]
  dsimp only
  rw [num_enc 1099511627776 s.by'.toNat _ (by omega) (by omega)]
  dsimp only
  rw [Int.toNat_of_nonneg (by omega), Int.toNat_of_nonneg (by omega)]
theorem rdShs_back (t : List UInt8) (L : List Sh) (h : ∀ s ∈ L, shOkV s = true) : ∀ n, n ≤ L.length → rdShs n (codeSs L ++ t) 0 = (L.take n, codeSs (L.drop n) ++ t, 0)
  | 0, _ => by simp [rdShs]
  | n + 1, hn => by
    have h1 := rdShs_back t L h n (by omega)
    have hd : L.drop n = L[n] :: L.drop (n + 1) := List.drop_eq_getElem_cons (by omega)
    simp only [rdShs, h1]
    have h2 := rdSh_back L[n] (codeSs (L.drop (n + 1)) ++ t) (h _ (List.getElem_mem _))
    rw [hd, show codeSs (L[n] :: L.drop (n + 1)) ++ t = codeS L[n] ++ (codeSs (L.drop (n + 1)) ++ t) by show List.flatMap codeS (L[n] :: L.drop (n + 1)) ++ t = _; rw [List.flatMap_cons, List.append_assoc]; rfl, h2, List.take_succ_eq_append_getElem (by omega)]
theorem readBd_back (b : Bd) (h : b.ok = true) : readBd (putBd b) 0 = (b, [], 0) := by
  have h0 := h
  unfold Bd.ok at h0
  simp only [Bool.and_eq_true, in64_iff, decide_eq_true_eq] at h0
  obtain ⟨hc, hr, ha, -⟩ := h0
  have h4 := rise_four hr ha
  have hb := rdShs_back [] b.L (fun s hs => List.all_eq_true.1 ha s hs) b.L.length (Nat.le_refl _)
  simp only [List.append_nil, List.take_length, List.drop_length] at hb
  unfold readBd putBd
  dsimp only
  rw [num_enc 1099511627776 b.cap.toNat _ (by omega) (by omega)]
  dsimp only
  rw [num_enc 4 b.L.length _ (by omega) (by omega)]
  dsimp only
  rw [hb]
  unfold endBd
  dsimp only
  rw [Int.toNat_of_nonneg (by omega), if_pos rfl, if_pos h]
  rfl
theorem readBd_fit (l : List UInt8) (e : Int) : (∀ s ∈ (readBd l e).1.L, s.fit) ∧ (readBd l e).1.L.length ≤ 4 ∧ SI64 (readBd l e).1.cap := by
  unfold readBd endBd
  dsimp only
  have h4 := bd_num_le 4 (by decide) (numR 1099511627776 l e).2.1 (numR 1099511627776 l e).2.2
  have hc := bd_num_le 1099511627776 (by decide) l e
  split
  · split
    · refine ⟨rdShs_fit _ _ _, by rw [rdShs_len]; omega, ⟨by show (-9223372036854775808 : Int) ≤ ((numR 1099511627776 l e).1 : Int); omega, by show ((numR 1099511627776 l e).1 : Int) ≤ 9223372036854775807; omega⟩⟩
    · exact ⟨(by intro s hs; cases hs), by simp [bdZ], z64⟩
  · exact ⟨(by intro s hs; cases hs), by simp [bdZ], z64⟩
/-- the two values' rows, and the two readers -/
structure BC2 (w0 w : World) (gA gB : Nat) (CA CB : List Value) (p q : Nat) (lp : List UInt8) (ep : Int) (lq : List UInt8) (eq : Int) : Prop where
  rA : Row w gA 25 CA
  rB : Row w gB 25 CB
  P : RP w p lp ep
  Q : RR w q lq eq
  B : Below w0.heap.size w0 w
  pb : w0.heap.size ≤ p
  qb : w0.heap.size ≤ q
  pA : gA ≠ p
  pB : gB ≠ p
  qA : gA ≠ q
  qB : gB ≠ q
section
variable {w0 w w' : World} {gA gB p q : Nat} {CA CB : List Value} {lp lq : List UInt8} {ep eq : Int}
theorem BC2.grow (h : BC2 w0 w gA gB CA CB p q lp ep lq eq) (hb : Below w.heap.size w w') : BC2 w0 w' gA gB CA CB p q lp ep lq eq :=
  ⟨h.rA.below hb h.rA.lt, h.rB.below hb h.rB.lt, h.P.mono hb, h.Q.mono hb, h.B.trans (hb.mono h.B.size), h.pb, h.qb, h.pA, h.pB, h.qA, h.qB⟩
theorem BC2.rdP (h : BC2 w0 w gA gB CA CB p q lp ep lq eq) {l' : List UInt8} {e' : Int} (hP : RP w' p l' e') (hg : Gw p w w') : BC2 w0 w' gA gB CA CB p q l' e' lq eq :=
  ⟨h.rA.gw hg h.pA, h.rB.gw hg h.pB, hP, h.Q.gw h.P hg, h.B.trans (hg.below h.pb h.B.size), h.pb, h.qb, h.pA, h.pB, h.qA, h.qB⟩
theorem BC2.rdQ (h : BC2 w0 w gA gB CA CB p q lp ep lq eq) {l' : List UInt8} {e' : Int} (hQ : RR w' q l' e') (hg : Gw q w w') : BC2 w0 w' gA gB CA CB p q lp ep l' e' :=
  ⟨h.rA.gw hg h.qA, h.rB.gw hg h.qB, h.P.gw h.Q hg, hQ, h.B.trans (hg.below h.qb h.B.size), h.pb, h.qb, h.pA, h.pB, h.qA, h.qB⟩
end
set_option maxRecDepth 100000 in
set_option maxHeartbeats 64000000 in
theorem law_BoardCodes (x y : BdX) (ba : Option Addr) (bm bc : Nat) (zb : List Int) (w : World) (hx : BdI w x) (hy : BdI w y) (hbz : IsRow .u8 w ba bm bc zb) :
    Calls Try.prog 4 #[x.val, y.val, .slice ba bm bc] w fun e w' => e = .returned (.bool true) ∧ Below w.heap.size w w' := by
  have hb := Rd.of_row hbz
  obtain ⟨lb, hlb⟩ : ∃ l, ((zb.take bm).map fun n => UInt8.ofNat n.toNat) = l := ⟨_, rfl⟩
  rw [hlb] at hb
  clear hlb hbz
  obtain ⟨⟨cp, L⟩, a, n, c⟩ := x
  obtain ⟨⟨cq, M⟩, a2, n2, c2⟩ := y
  obtain ⟨hl, i1⟩ := hx
  obtain ⟨hl2, i2⟩ := hy
  dsimp only at hl i1 hl2 i2 ⊢
  have HL := Lib.hid hl.hlen
  have HB := Lib.hid hb
  have LZS := Lib.hid bd_size
  have LZ := Lib.hid bd_zero
  have HA := Lib.hid (fun w => awake25 w)
  have hmx1 := hl.hmax
  have hle1 := hl.hle
  have hmx2 := hl2.hmax
  have hle2 := hl2.hle
  have hmx3 := hb.hmax
  have hle3 := hb.hle
  by_cases hall : n ≤ 30 ∧ n2 ≤ 30 ∧ bm ≤ 2000
  case neg =>
    clear hl hl2 hb i1 i2
    by_cases f1 : n ≤ 30
    rotate_left
    · clear hall
      have g1 : (30 : Int) < (n : Int) := by omega
      go_enter Try.func4, Try.ntmps4
      go_wp2_with (first
        | ((with_reducible refine box_row (o := ⟨some 3, _, _, _, _, _⟩) rfl _ _ rfl (bdC cp a n c) rfl ?_); intro w1 hr hb hz; have RA1 := Lib.hid hr; have B1 := Lib.hid hb; clear hr hb hz)
        | ((with_reducible refine box_row (o := ⟨some 4, _, _, _, _, _⟩) rfl _ _ rfl (bdC cq a2 n2 c2) rfl ?_); intro w4 hr hb hz; have RB4 := Lib.hid hr; have RA4 := Lib.hid (RA1.out.below hb RA1.out.lt); have B4 := Lib.hid (B1.out.trans (hb.mono B1.out.size)); have k2 := RA4.out.k2.2; have m2 := RB4.out.k2.2; clear hr hb hz)
        | (go_at_call 13; (with_reducible refine (HA.out _).mono ?_); rintro x wb ⟨rfl, hb⟩; have Bb := Lib.hid (B4.out.trans (hb.mono B4.out.size)); clear hb))
      go_ret
      exact ⟨rfl, Bb.out⟩
    by_cases f2 : n2 ≤ 30
    rotate_left
    · clear hall
      have g1 : ¬ (30 : Int) < (n : Int) := by omega
      have g2 : (30 : Int) < (n2 : Int) := by omega
      go_enter Try.func4, Try.ntmps4
      go_wp2_with (first
        | ((with_reducible refine box_row (o := ⟨some 3, _, _, _, _, _⟩) rfl _ _ rfl (bdC cp a n c) rfl ?_); intro w1 hr hb hz; have RA1 := Lib.hid hr; have B1 := Lib.hid hb; clear hr hb hz)
        | ((with_reducible refine box_row (o := ⟨some 4, _, _, _, _, _⟩) rfl _ _ rfl (bdC cq a2 n2 c2) rfl ?_); intro w4 hr hb hz; have RB4 := Lib.hid hr; have RA4 := Lib.hid (RA1.out.below hb RA1.out.lt); have B4 := Lib.hid (B1.out.trans (hb.mono B1.out.size)); have k2 := RA4.out.k2.2; have m2 := RB4.out.k2.2; clear hr hb hz)
        | (go_at_call 13; (with_reducible refine (HA.out _).mono ?_); rintro x wb ⟨rfl, hb⟩; have Bb := Lib.hid (B4.out.trans (hb.mono B4.out.size)); clear hb))
      go_ret
      exact ⟨rfl, Bb.out⟩
    · have g1 : ¬ (30 : Int) < (n : Int) := by omega
      have g2 : ¬ (30 : Int) < (n2 : Int) := by omega
      have g3 : (2000 : Int) < (bm : Int) := by omega
      clear hall
      go_enter Try.func4, Try.ntmps4
      go_wp2_with (first
        | ((with_reducible refine box_row (o := ⟨some 3, _, _, _, _, _⟩) rfl _ _ rfl (bdC cp a n c) rfl ?_); intro w1 hr hb hz; have RA1 := Lib.hid hr; have B1 := Lib.hid hb; clear hr hb hz)
        | ((with_reducible refine box_row (o := ⟨some 4, _, _, _, _, _⟩) rfl _ _ rfl (bdC cq a2 n2 c2) rfl ?_); intro w4 hr hb hz; have RB4 := Lib.hid hr; have RA4 := Lib.hid (RA1.out.below hb RA1.out.lt); have B4 := Lib.hid (B1.out.trans (hb.mono B1.out.size)); have k2 := RA4.out.k2.2; have m2 := RB4.out.k2.2; clear hr hb hz)
        | (go_at_call 13; (with_reducible refine (HA.out _).mono ?_); rintro x wb ⟨rfl, hb⟩; have Bb := Lib.hid (B4.out.trans (hb.mono B4.out.size)); clear hb))
      go_ret
      exact ⟨rfl, Bb.out⟩
  obtain ⟨f1, f2, f3⟩ := hall
  have g1 : ¬ (30 : Int) < (n : Int) := by omega
  have g2 : ¬ (30 : Int) < (n2 : Int) := by omega
  have g3 : ¬ (2000 : Int) < (bm : Int) := by omega
  obtain ⟨hfit, hlen, hcz⟩ := readBd_fit lb 0
  obtain ⟨Z, lz, ez, hz⟩ : ∃ x y z, readBd lb 0 = (x, y, z) := ⟨_, _, _, rfl⟩
  have HPR := Lib.hid (fun p w' (hp : RP w' p lb 0) => pbread p lb 0 w' hp)
  have HYR := Lib.hid (fun p w' (hp : RR w' p lb 0) => zbread p lb 0 w' hp)
  simp only [hz] at HPR HYR
  rw [hz] at hfit hlen hcz
  dsimp only at hfit hlen hcz
  obtain ⟨ze, ZL⟩ := Z
  dsimp only at HPR HYR hfit hlen hcz
  obtain ⟨m, hm⟩ : ∃ m, ZL.length = m := ⟨_, rfl⟩
  simp only [hm] at HPR HYR
  have hm4 : m ≤ 4 := by rw [← hm]; exact hlen
  have HM := Lib.hid hm
  have HCZ := Lib.hid hcz
  have HFT := Lib.hid (show ∀ x ∈ ZL, x.fit from hfit)
  obtain ⟨R, hR⟩ : ∃ R, lb ++ putBd ⟨cp, L⟩ = R := ⟨_, rfl⟩
  obtain ⟨Q, hQ⟩ : ∃ R, putBd ⟨cp, L⟩ = R := ⟨_, rfl⟩
  have HP1 := Lib.hid (fun w' (hw : Below w.heap.size w w') => pbput ba bm bc lb cp a n c L w' (hb.mono hw) (by omega) (hl.mono shOk hw) (by omega) i1)
  have HP2 := Lib.hid (fun w' (hw : Below w.heap.size w w') => zbput ba bm bc lb cp a n c L w' (hb.mono hw) (by omega) (hl.mono shOk hw) (by omega) i1)
  have HP3 := Lib.hid (fun w' (hw : Below w.heap.size w w') => pbput none 0 0 [] cp a n c L w' (Rd_nil _) (by omega) (hl.mono shOk hw) (by omega) i1)
  simp only [hR] at HP1 HP2
  simp only [List.nil_append, hQ] at HP3
  have HQL := Lib.hid (show Q.length ≤ 10000 by
    rw [← hQ]; unfold putBd
    have e1 := P.enc_len cp.toNat (by have := i1.2; omega)
    have e2 := P.enc_len L.length (by rw [hl.hlen]; omega)
    have e3 := codeSs_len L (fun s hs => hl.hfit s hs)
    have e4 : L.length * 18 ≤ 30 * 18 := Nat.mul_le_mul_right _ (by rw [hl.hlen]; exact f1)
    simp only [List.length_append]; omega)
  obtain ⟨V, hV⟩ : ∃ V : Bool, decide ((⟨cp, L⟩ : Bd) = ⟨cq, M⟩) = V := ⟨_, rfl⟩
  have hVi : V = true ↔ (⟨cp, L⟩ : Bd) = ⟨cq, M⟩ := by rw [← hV]; exact decide_eq_true_iff
  have HE1 := Lib.hid (fun w' (hw : Below w.heap.size w w') => pbsame _ _ _ _ w' (bdv i1 (hl.mono shOk hw)) (bdv i2 (hl2.mono shOk hw)) V hVi)
  have HE2 := Lib.hid (fun w' (hw : Below w.heap.size w w') => zbsame _ _ _ _ w' (bdv i1 (hl.mono shOk hw)) (bdv i2 (hl2.mono shOk hw)) V hVi)
  obtain ⟨ck, hck⟩ : ∃ q, Bd.ok ⟨cp, L⟩ = q := ⟨_, rfl⟩
  have HCK := Lib.hid (fun w' (hw : Below w.heap.size w w') => pbcheck _ _ w' (bdv i1 (hl.mono shOk hw)) (by show L.length ≤ 1000; rw [hl.hlen]; omega))
  rw [hck] at HCK
  have HBK := Lib.hid (fun (e : ck = true) => (by rw [← hQ]; exact readBd_back ⟨cp, L⟩ (by rw [hck]; exact e) : readBd Q 0 = (⟨cp, L⟩, [], 0)))
  have HLL := Lib.hid (fun w' (hw : Below w.heap.size w w') => hl.mono shOk hw)
  have HFL := Lib.hid (show ∀ x ∈ L, x.fit from hl.hfit)
  have I1 := Lib.hid i1
  clear hl hl2 hb i1 i2 hfit hlen hz hm hR hV hVi hck hQ hcz
  go_enter Try.func4, Try.ntmps4
  go_wp2_with (first
    | ((with_reducible refine box_row (o := ⟨some 3, _, _, _, _, _⟩) rfl _ _ rfl (bdC cp a n c) rfl ?_); intro w1 hr hb hz; have RA1 := Lib.hid hr; have B1 := Lib.hid hb; clear hr hb hz)
    | ((with_reducible refine box_row (o := ⟨some 4, _, _, _, _, _⟩) rfl _ _ rfl (bdC cq a2 n2 c2) rfl ?_); intro w4 hr hb hz; have RB4 := Lib.hid hr; have RA4 := Lib.hid (RA1.out.below hb RA1.out.lt); have B4 := Lib.hid (B1.out.trans (hb.mono B1.out.size)); have k2 := RA4.out.k2.2; have m2 := RB4.out.k2.2; clear hr hb hz)
    | (go_at_call 14; (with_reducible refine (popen ba bm bc lb w4 (HB.out.mono B4.out) (by omega)).mono ?_); rintro x w5 ⟨p, rfl, hp1, hp2, hb⟩; have P5 := Lib.hid hp2; have PW := Lib.hid hp1; have RA5 := Lib.hid (RA4.out.below hb RA4.out.lt); have RB5 := Lib.hid (RB4.out.below hb RB4.out.lt); have B5 := Lib.hid (B4.out.trans (hb.mono B4.out.size)); clear hp1 hp2 hb)
    | (go_at_call 15; (with_reducible refine (ropen ba bm bc lb w5 (HB.out.mono B5.out) (by omega)).mono ?_); rintro x w6 ⟨qq, rfl, hq1, hq2, hb⟩; have C6 := Lib.hid (show BC2 w w6 w.heap.size w1.heap.size (bdC cp a n c) (bdC cq a2 n2 c2) p qq lb 0 lb 0 from ⟨RA5.out.below hb RA5.out.lt, RB5.out.below hb RB5.out.lt, P5.out.mono hb, hq2, B5.out.trans (hb.mono B5.out.size), Nat.le_trans B4.out.size PW.out, Nat.le_trans B5.out.size hq1, Nat.ne_of_lt (Nat.lt_of_lt_of_le RA4.out.lt PW.out), Nat.ne_of_lt (Nat.lt_of_lt_of_le RB4.out.lt PW.out), Nat.ne_of_lt (Nat.lt_of_lt_of_le RA5.out.lt hq1), Nat.ne_of_lt (Nat.lt_of_lt_of_le RB5.out.lt hq1)⟩); clear hq1 hq2 hb k2 m2)
    | (go_at_call 16; (with_reducible refine (HPR.out p w6 C6.out.P).mono ?_); rintro x w7 ⟨a7, c7, rfl, hN, hP, hg⟩; have N7 := Lib.hid hN; have C7 := Lib.hid (C6.out.rdP hP hg); clear hN hP hg)
    | (go_at_call 17; (with_reducible refine (HYR.out qq w7 C7.out.Q).mono ?_); rintro x w8 ⟨a8, c8, rfl, hN, hQ, hg⟩; have M8 := Lib.hid hN; have N8 := Lib.hid (LsN.rr (by decide) shNb N7.out C7.out.Q hg); have C8 := Lib.hid (C7.out.rdQ hQ hg); clear hN hQ hg)
    | ((with_reducible refine alloc_row (o := ⟨some 9, _, _, _, _, _⟩) rfl _ rfl _ LZ.out ?_); intro w9 hr hb hz; have X9 := Lib.hid hr; have M9 := Lib.hid (M8.out.kept hb); have N9 := Lib.hid (N8.out.kept hb); have C9 := Lib.hid (C8.out.grow hb); have BX9 := Lib.hid hb; clear hr hb hz)
    | ((with_reducible refine alloc_row (o := ⟨some 10, _, _, _, _, _⟩) rfl _ rfl _ LZ.out ?_); intro wA hr hb hz; have YA := Lib.hid hr; have XA := Lib.hid (X9.out.below hb X9.out.lt); have MA := Lib.hid (M9.out.kept hb); have NA := Lib.hid (N9.out.kept hb); have CA := Lib.hid (C9.out.grow hb); have BXA := Lib.hid (BX9.out.trans (hb.mono BX9.out.size)); clear hr hb hz)
    | ((with_reducible refine store_row (o := ⟨none, _, _, _, _, _⟩) rfl _ (.tmp 9) _ rfl w8.heap.size (bdC ze a7 m c7) ?_ ?_ 25 _ XA.out ?_ ?_ ?_ ?_); (focus go_simp); (focus (first | (go_simp; done) | (go_simp; rfl))); (focus (exact LZS.out)); (focus rfl); (focus (exact bd_one _ _ _ _)); intro wB hr hu; have XB := Lib.hid hr; have YB := Lib.hid (YA.out.upd hu (Nat.ne_of_gt X9.out.lt)); have BXB := Lib.hid (BXA.out.trans (hu.below (Nat.le_refl _))); clear hr hu)
    | ((with_reducible refine store_row (o := ⟨none, _, _, _, _, _⟩) rfl _ (.tmp 10) _ rfl w9.heap.size (bdC ze a8 m c8) ?_ ?_ 25 _ YB.out ?_ ?_ ?_ ?_); (focus go_simp); (focus (first | (go_simp; done) | (go_simp; rfl))); (focus (exact LZS.out)); (focus rfl); (focus (exact bd_one _ _ _ _)); intro wC hr hu; have YC := Lib.hid hr; have XC := Lib.hid (XB.out.upd hu (Nat.ne_of_lt X9.out.lt)); have BXC := Lib.hid (BXB.out.trans (hu.below BX9.out.size)); have CC := Lib.hid (C8.out.grow BXC.out); have NC := Lib.hid (N8.out.kept BXC.out); have MC := Lib.hid (M8.out.kept BXC.out); clear hr hu))
  refine region_h (fun v => Below wC.heap.size wC v) (by kernel_rfl) (by kernel_rfl) (Below.refl _ _).drew ?_
  obtain ⟨d0, hd0⟩ : ∃ wd, wC.drew = wd := ⟨_, rfl⟩
  have J0 : Hid (Below wC.heap.size wC d0) := Lib.hid (by rw [← hd0]; exact (Below.refl _ _).drew)
  rw [hd0]
  clear hd0
  (refine h_read 0 rfl (by kernel_rfl) (by kernel_rfl) (h_free rfl) ?_ ?_ ?_; rotate_left; (focus (intro v hv; go_simp; rfl)); go_simp)
  (refine h_read 1 rfl (by kernel_rfl) (by kernel_rfl) (h_free rfl) ?_ ?_ ?_; rotate_left; (focus (intro v hv; refine run_cells 25 (.tmp 3) ?_ w.heap.size 0 ?_ (bdC cp a n c) _ (fun j' u' hj => by rw [hv.cell (p := ⟨w.heap.size, 0 + j', none⟩) CC.out.rA.lt, Nat.zero_add, CC.out.rA.cellV]; exact hj) Try.underlying25 rfl bd_size; (focus rfl); go_simp)); go_simp)
  (refine h_read 3 rfl (by kernel_rfl) (by kernel_rfl) (h_free rfl) ?_ ?_ ?_; rotate_left; (focus (intro v hv; go_simp; rfl)); go_simp)
  (refine h_read 4 rfl (by kernel_rfl) (by kernel_rfl) (h_free rfl) ?_ ?_ ?_; rotate_left; (focus (intro v hv; refine run_cells 25 (.tmp 3) ?_ w.heap.size 0 ?_ (bdC cp a n c) _ (fun j' u' hj => by rw [hv.cell (p := ⟨w.heap.size, 0 + j', none⟩) CC.out.rA.lt, Nat.zero_add, CC.out.rA.cellV]; exact hj) Try.underlying25 rfl bd_size; (focus rfl); go_simp)); go_simp)
  (refine h_call 2 rfl (by kernel_rfl) (h_free rfl) 19 ?_ ?_ ?_; rotate_left; (focus (go_simp; rfl)))
  refine (HP1.out d0 (CC.out.B.trans (J0.out.mono CC.out.B.size))).mono ?_
  rintro z d1 ⟨v1, rfl, hf, hb⟩
  have J1 := Lib.hid (J0.out.trans (hb.mono J0.out.size))
  have F1 := Lib.hid hf
  clear hf
  clear hb
  refine ⟨_, rfl, J1.out, ?_⟩
  go_simp
  (refine h_call 5 rfl (by kernel_rfl) (h_free rfl) 20 ?_ ?_ ?_; rotate_left; (focus (go_simp; rfl)))
  refine (HP2.out d1 (CC.out.B.trans (J1.out.mono CC.out.B.size))).mono ?_
  rintro z d2 ⟨v2, rfl, hf, hb⟩
  have J2 := Lib.hid (J1.out.trans (hb.mono J1.out.size))
  obtain ⟨rl, hrl⟩ : ∃ rl, R.length = rl := ⟨_, rfl⟩
  obtain ⟨y2, e2, hv2, hr2⟩ := hf.form' rl hrl
  obtain ⟨y1, e1, hv1, hr1⟩ := (F1.out.kept hb).form' rl hrl
  subst hv1 hv2
  have K1 := Lib.hid hr1
  have K2 := Lib.hid hr2
  clear hf hr1 hr2 hrl
  clear hb
  refine ⟨_, rfl, J2.out, ?_⟩
  go_simp
  (refine h_call 6 rfl (by kernel_rfl) (h_free rfl) 18 ?_ ?_ ?_; rotate_left; (focus (go_simp; rfl)))
  refine (sequal y1 y2 rl rl e1 e2 R R d2 K1.out K2.out).mono ?_
  rw [decide_eq_true rfl]
  rintro z d3 ⟨rfl, hq⟩
  have J3 := Lib.hid (J2.out.trans ((hq.below d2.heap.size).mono J2.out.size))
  clear hq
  refine ⟨_, rfl, J3.out, ?_⟩
  go_simp
  (refine h_read 7 rfl (by kernel_rfl) (by kernel_rfl) (h_free rfl) ?_ ?_ ?_; rotate_left; (focus (intro v hv; go_simp; rfl)); go_simp)
  (refine h_read 8 rfl (by kernel_rfl) (by kernel_rfl) (h_free rfl) ?_ ?_ ?_; rotate_left; (focus (intro v hv; go_simp; rfl)); go_simp)
  (refine h_read 9 rfl (by kernel_rfl) (by kernel_rfl) ?_ ?_ ?_ ?_; (focus (go_simp; done)); rotate_left; (focus (intro v hv; refine run_cells 25 (.tmp 9) ?_ w8.heap.size 0 ?_ (bdC ze a7 m c7) _ (fun j' u' hj => by rw [hv.cell (p := ⟨w8.heap.size, 0 + j', none⟩) XC.out.lt, Nat.zero_add, XC.out.cellV]; exact hj) Try.underlying25 rfl bd_size; (focus rfl); go_simp)); go_simp)
  (refine h_read 10 rfl (by kernel_rfl) (by kernel_rfl) ?_ ?_ ?_ ?_; (focus (go_simp; done)); rotate_left; (focus (intro v hv; refine run_cells 25 (.tmp 10) ?_ w9.heap.size 0 ?_ (bdC ze a8 m c8) _ (fun j' u' hj => by rw [hv.cell (p := ⟨w9.heap.size, 0 + j', none⟩) YC.out.lt, Nat.zero_add, YC.out.cellV]; exact hj) Try.underlying25 rfl bd_size; (focus rfl); go_simp)); go_simp)
  (refine h_call 11 rfl (by kernel_rfl) ?_ 6 ?_ ?_ ?_; (focus (go_simp; done)); rotate_left; (focus (go_simp; rfl)))
  refine (zbsame _ _ ⟨ze, ZL⟩ ⟨ze, ZL⟩ d3 (bdv HCZ.out (fin_bd ((NC.out.kept J3.out).lso shOk) HM.out HFT.out)) (bdv HCZ.out (fin_bd ((MC.out.kept J3.out).lso shOk) HM.out HFT.out)) true ⟨fun _ => rfl, fun _ => rfl⟩).mono ?_
  rintro z d4 ⟨rfl, hb⟩
  have J4 := Lib.hid (J3.out.trans (hb.mono J3.out.size))
  clear hb
  refine ⟨_, rfl, J4.out, ?_⟩
  go_simp
  (refine h_read 12 rfl (by kernel_rfl) (by kernel_rfl) ?_ ?_ ?_ ?_; (focus (go_simp; done)); rotate_left; (focus (intro v hv; go_simp; rfl)); go_simp)
  (refine h_read 13 rfl (by kernel_rfl) (by kernel_rfl) (h_free rfl) ?_ ?_ ?_; rotate_left; (focus (intro v hv; go_simp; rfl)); go_simp)
  (refine h_read 14 rfl (by kernel_rfl) (by kernel_rfl) (h_free rfl) ?_ ?_ ?_; rotate_left; (focus (intro v hv; go_simp; rfl)); go_simp)
  (refine h_read 15 rfl (by kernel_rfl) (by kernel_rfl) ?_ ?_ ?_ ?_; (focus (go_simp; done)); rotate_left; (focus (intro v hv; go_simp; rfl)); go_simp)
  (refine h_read 17 rfl (by kernel_rfl) (by kernel_rfl) ?_ ?_ ?_ ?_; (focus (go_simp; done)); rotate_left; (focus (intro v hv; go_simp; rfl)); go_simp)
  (refine h_call 16 rfl (by kernel_rfl) ?_ 21 ?_ ?_ ?_; (focus (go_simp; done)); rotate_left; (focus (go_simp; rfl)))
  refine (perr p lz ez d4 (CC.out.P.mono J4.out)).mono ?_
  rintro z wz ⟨rfl, rfl⟩
  refine ⟨_, rfl, J4.out, ?_⟩
  go_simp
  (refine h_call 18 rfl (by kernel_rfl) ?_ 22 ?_ ?_ ?_; (focus (go_simp; done)); rotate_left; (focus (go_simp; rfl)))
  refine (rerr qq lz ez d4 (CC.out.Q.mono J4.out)).mono ?_
  rintro z wz ⟨rfl, rfl⟩
  refine ⟨_, rfl, J4.out, ?_⟩
  go_simp
  (refine h_read 19 rfl (by kernel_rfl) (by kernel_rfl) ?_ ?_ ?_ ?_; (focus (go_simp; done)); rotate_left; (focus (intro v hv; go_simp; rfl)); go_simp)
  (refine h_read 20 rfl (by kernel_rfl) (by kernel_rfl) (h_free rfl) ?_ ?_ ?_; rotate_left; (focus (intro v hv; go_simp; rfl)); go_simp)
  (refine h_read 21 rfl (by kernel_rfl) (by kernel_rfl) (h_free rfl) ?_ ?_ ?_; rotate_left; (focus (intro v hv; go_simp; rfl)); go_simp)
  (refine h_read 22 rfl (by kernel_rfl) (by kernel_rfl) ?_ ?_ ?_ ?_; (focus (go_simp; done)); rotate_left; (focus (intro v hv; go_simp; rfl)); go_simp)
  (refine h_read 24 rfl (by kernel_rfl) (by kernel_rfl) ?_ ?_ ?_ ?_; (focus (go_simp; done)); rotate_left; (focus (intro v hv; go_simp; rfl)); go_simp)
  (refine h_call 23 rfl (by kernel_rfl) ?_ 23 ?_ ?_ ?_; (focus (go_simp; done)); rotate_left; (focus (go_simp; rfl)))
  refine (pleftB p lz ez d4 (CC.out.P.mono J4.out)).mono ?_
  rintro z wz ⟨rfl, rfl⟩
  refine ⟨_, rfl, J4.out, ?_⟩
  go_simp
  (refine h_call 25 rfl (by kernel_rfl) ?_ 24 ?_ ?_ ?_; (focus (go_simp; done)); rotate_left; (focus (go_simp; rfl)))
  refine (rleft qq lz ez d4 (CC.out.Q.mono J4.out)).mono ?_
  rintro z wz ⟨rfl, rfl⟩
  refine ⟨_, rfl, J4.out, ?_⟩
  go_simp
  (refine h_read 26 rfl (by kernel_rfl) (by kernel_rfl) ?_ ?_ ?_ ?_; (focus (go_simp; done)); rotate_left; (focus (intro v hv; go_simp; rfl)); go_simp)
  (refine h_read 27 rfl (by kernel_rfl) (by kernel_rfl) (h_free rfl) ?_ ?_ ?_; rotate_left; (focus (intro v hv; go_simp; rfl)); go_simp)
  (refine h_read 28 rfl (by kernel_rfl) (by kernel_rfl) (h_free rfl) ?_ ?_ ?_; rotate_left; (focus (intro v hv; go_simp; rfl)); go_simp)
  (refine h_read 29 rfl (by kernel_rfl) (by kernel_rfl) ?_ ?_ ?_ ?_; (focus (go_simp; done)); rotate_left; (focus (intro v hv; refine run_cells 25 (.tmp 3) ?_ w.heap.size 0 ?_ (bdC cp a n c) _ (fun j' u' hj => by rw [hv.cell (p := ⟨w.heap.size, 0 + j', none⟩) CC.out.rA.lt, Nat.zero_add, CC.out.rA.cellV]; exact hj) Try.underlying25 rfl bd_size; (focus rfl); go_simp)); go_simp)
  (refine h_read 30 rfl (by kernel_rfl) (by kernel_rfl) ?_ ?_ ?_ ?_; (focus (go_simp; done)); rotate_left; (focus (intro v hv; refine run_cells 25 (.tmp 4) ?_ w1.heap.size 0 ?_ (bdC cq a2 n2 c2) _ (fun j' u' hj => by rw [hv.cell (p := ⟨w1.heap.size, 0 + j', none⟩) CC.out.rB.lt, Nat.zero_add, CC.out.rB.cellV]; exact hj) Try.underlying25 rfl bd_size; (focus rfl); go_simp)); go_simp)
  (refine h_read 32 rfl (by kernel_rfl) (by kernel_rfl) ?_ ?_ ?_ ?_; (focus (go_simp; done)); rotate_left; (focus (intro v hv; refine run_cells 25 (.tmp 3) ?_ w.heap.size 0 ?_ (bdC cp a n c) _ (fun j' u' hj => by rw [hv.cell (p := ⟨w.heap.size, 0 + j', none⟩) CC.out.rA.lt, Nat.zero_add, CC.out.rA.cellV]; exact hj) Try.underlying25 rfl bd_size; (focus rfl); go_simp)); go_simp)
  (refine h_read 33 rfl (by kernel_rfl) (by kernel_rfl) ?_ ?_ ?_ ?_; (focus (go_simp; done)); rotate_left; (focus (intro v hv; refine run_cells 25 (.tmp 4) ?_ w1.heap.size 0 ?_ (bdC cq a2 n2 c2) _ (fun j' u' hj => by rw [hv.cell (p := ⟨w1.heap.size, 0 + j', none⟩) CC.out.rB.lt, Nat.zero_add, CC.out.rB.cellV]; exact hj) Try.underlying25 rfl bd_size; (focus rfl); go_simp)); go_simp)
  (refine h_call 31 rfl (by kernel_rfl) ?_ 12 ?_ ?_ ?_; (focus (go_simp; done)); rotate_left; (focus (go_simp; rfl)))
  refine (HE1.out d4 (CC.out.B.trans (J4.out.mono CC.out.B.size))).mono ?_
  rintro z d5 ⟨rfl, hb⟩
  have J5 := Lib.hid (J4.out.trans (hb.mono J4.out.size))
  clear hb
  refine ⟨_, rfl, J5.out, ?_⟩
  go_simp
  (refine h_call 34 rfl (by kernel_rfl) ?_ 6 ?_ ?_ ?_; (focus (go_simp; done)); rotate_left; (focus (go_simp; rfl)))
  refine (HE2.out d5 (CC.out.B.trans (J5.out.mono CC.out.B.size))).mono ?_
  rintro z d6 ⟨rfl, hb⟩
  have J6 := Lib.hid (J5.out.trans (hb.mono J5.out.size))
  clear hb
  refine ⟨_, rfl, J6.out, ?_⟩
  go_simp
  (refine h_read 35 rfl (by kernel_rfl) (by kernel_rfl) ?_ ?_ ?_ ?_; (focus (go_simp; done)); rotate_left; (focus (intro v hv; go_simp; rfl)); go_simp)
  (refine h_read 36 rfl (by kernel_rfl) (by kernel_rfl) (h_free rfl) ?_ ?_ ?_; rotate_left; (focus (intro v hv; go_simp; rfl)); go_simp)
  refine h_done (by kernel_rfl) ?_
  have CF := Lib.hid (CC.out.grow J6.out)
  go_wp2_with (first
    | ((with_reducible refine load_row (o := ⟨some 73, _, _, _, _, _⟩) rfl _ _ rfl w.heap.size ?_ _ (bdC cp a n c) _ CF.out.rA Try.underlying25 rfl ?_ ?_); (focus go_simp); (focus (exact LZS.out)))
    | (go_at_call 19; (with_reducible refine (HP3.out d6 CF.out.B).mono ?_); rintro z d7 ⟨v7, rfl, hf, hb⟩; obtain ⟨ql, hql⟩ : ∃ rl, Q.length = rl := ⟨_, rfl⟩; obtain ⟨y7, e7, rfl, hr7⟩ := hf.form' ql hql; have K7 := Lib.hid hr7; have QL := Lib.hid (show ql ≤ 10000 by rw [← hql]; exact HQL.out); have C7' := Lib.hid (CF.out.grow hb); clear hf hr7 hql hb)
    | (go_at_call 14; (with_reducible refine (popen y7 ql e7 Q d7 K7.out (by have := QL.out; omega)).mono ?_); rintro z d8 ⟨po, rfl, hp1, hp2, hb⟩; have PO := Lib.hid hp2; have POW := Lib.hid hp1; have C8' := Lib.hid (C7'.out.grow hb); clear hp1 hp2 hb))
  refine region_h (fun v => Row v w.heap.size 25 (bdC cp a n c)) (by kernel_rfl) (by kernel_rfl) (C8'.out.rA.below (Below.refl _ _).drew C8'.out.rA.lt) ?_
  obtain ⟨k0, hk0⟩ : ∃ wd, d8.drew = wd := ⟨_, rfl⟩
  have I0 : Hid (Below d8.heap.size d8 k0) := Lib.hid (by rw [← hk0]; exact (Below.refl _ _).drew)
  rw [hk0]
  clear hk0
  have C10 := Lib.hid (C8'.out.grow I0.out)
  have P10 := Lib.hid (PO.out.mono I0.out)
  have PB := Lib.hid (show w.heap.size ≠ po ∧ w.heap.size ≤ po from ⟨Nat.ne_of_lt (Nat.lt_of_lt_of_le C7'.out.rA.lt POW.out), Nat.le_trans C7'.out.B.size POW.out⟩)
  cases ck
  · (refine h_read 0 rfl (by kernel_rfl) (by kernel_rfl) (h_free rfl) ?_ ?_ ?_; rotate_left; (focus (intro v hv; refine run_cells 25 (.tmp 3) ?_ w.heap.size 0 ?_ (bdC cp a n c) _ (fun j' u' hj => by rw [Nat.zero_add, hv.cellV]; exact hj) Try.underlying25 rfl bd_size; (focus rfl); go_simp)); go_simp)
    (refine h_call 1 rfl (by kernel_rfl) (h_free rfl) 10 ?_ ?_ ?_; rotate_left; (focus (go_simp; rfl)))
    refine (HCK.out k0 C10.out.B).mono ?_
    rintro z k1 ⟨rfl, hb⟩
    have C11 := Lib.hid (C10.out.B.trans (hb.mono C10.out.B.size))
    have R11 := Lib.hid (C10.out.rA.below hb C10.out.rA.lt)
    have P11 := Lib.hid (P10.out.mono hb)
    clear hb
    refine ⟨_, rfl, R11.out, ?_⟩
    go_simp
    (refine h_read 2 rfl (by kernel_rfl) (by kernel_rfl) (h_free rfl) ?_ ?_ ?_; rotate_left; (focus (intro v hv; go_simp; rfl)); go_simp)
    (refine h_read 3 rfl (by kernel_rfl) (by kernel_rfl) (h_free rfl) ?_ ?_ ?_; rotate_left; (focus (intro v hv; go_simp; rfl)); go_simp)
    (refine h_skip 4 rfl (by kernel_rfl) (by kernel_rfl) ?_ ?_; (focus (go_simp; first | done | (intro h; cases h) | simp)); go_simp)
    (refine h_skip 5 rfl (by kernel_rfl) (by kernel_rfl) ?_ ?_; (focus (go_simp; first | done | (intro h; cases h) | simp)); go_simp)
    (refine h_skip 6 rfl (by kernel_rfl) (by kernel_rfl) ?_ ?_; (focus (go_simp; first | done | (intro h; cases h) | simp)); go_simp)
    (refine h_skip 7 rfl (by kernel_rfl) (by kernel_rfl) ?_ ?_; (focus (go_simp; first | done | (intro h; cases h) | simp)); go_simp)
    (refine h_skip 8 rfl (by kernel_rfl) (by kernel_rfl) ?_ ?_; (focus (go_simp; first | done | (intro h; cases h) | simp)); go_simp)
    (refine h_skip 9 rfl (by kernel_rfl) (by kernel_rfl) ?_ ?_; (focus (go_simp; first | done | (intro h; cases h) | simp)); go_simp)
    (refine h_skip 10 rfl (by kernel_rfl) (by kernel_rfl) ?_ ?_; (focus (go_simp; first | done | (intro h; cases h) | simp)); go_simp)
    (refine h_skip 11 rfl (by kernel_rfl) (by kernel_rfl) ?_ ?_; (focus (go_simp; first | done | (intro h; cases h) | simp)); go_simp)
    (refine h_skip 12 rfl (by kernel_rfl) (by kernel_rfl) ?_ ?_; (focus (go_simp; first | done | (intro h; cases h) | simp)); go_simp)
    (refine h_read 13 rfl (by kernel_rfl) (by kernel_rfl) (h_free rfl) ?_ ?_ ?_; rotate_left; (focus (intro v hv; go_simp; rfl)); go_simp)
    (refine h_read 14 rfl (by kernel_rfl) (by kernel_rfl) (h_free rfl) ?_ ?_ ?_; rotate_left; (focus (intro v hv; go_simp; rfl)); go_simp)
    (refine h_call 15 rfl (by kernel_rfl) ?_ 13 ?_ ?_ ?_; (focus (go_simp; done)); rotate_left; (focus (go_simp; rfl)))
    refine (HA.out k1).mono ?_
    rintro z k2 ⟨rfl, hb⟩
    have C12 := Lib.hid (C11.out.trans (hb.mono C11.out.size))
    have R12 := Lib.hid (R11.out.below hb R11.out.lt)
    clear hb
    refine ⟨_, rfl, R12.out, ?_⟩
    go_simp
    (refine h_read 16 rfl (by kernel_rfl) (by kernel_rfl) (h_free rfl) ?_ ?_ ?_; rotate_left; (focus (intro v hv; go_simp; rfl)); go_simp)
    (refine h_read 17 rfl (by kernel_rfl) (by kernel_rfl) (h_free rfl) ?_ ?_ ?_; rotate_left; (focus (intro v hv; go_simp; rfl)); go_simp)
    refine h_done (by kernel_rfl) ?_
    go_wp2_with fail
    go_ret
    exact ⟨by first | rfl | exact one (vbool (by simp)), C12.out⟩
  have hbk := HBK.out rfl
  have HRB := Lib.hid (fun p w' (hp : RP w' p Q 0) => pbread p Q 0 w' hp)
  simp only [hbk] at HRB
  simp only [HL.out] at HRB
  clear hbk
  (refine h_read 0 rfl (by kernel_rfl) (by kernel_rfl) (h_free rfl) ?_ ?_ ?_; rotate_left; (focus (intro v hv; refine run_cells 25 (.tmp 3) ?_ w.heap.size 0 ?_ (bdC cp a n c) _ (fun j' u' hj => by rw [Nat.zero_add, hv.cellV]; exact hj) Try.underlying25 rfl bd_size; (focus rfl); go_simp)); go_simp)
  (refine h_call 1 rfl (by kernel_rfl) (h_free rfl) 10 ?_ ?_ ?_; rotate_left; (focus (go_simp; rfl)))
  refine (HCK.out k0 C10.out.B).mono ?_
  rintro z k1 ⟨rfl, hb⟩
  have C11 := Lib.hid (C10.out.B.trans (hb.mono C10.out.B.size))
  have R11 := Lib.hid (C10.out.rA.below hb C10.out.rA.lt)
  have P11 := Lib.hid (P10.out.mono hb)
  clear hb
  refine ⟨_, rfl, R11.out, ?_⟩
  go_simp
  (refine h_read 2 rfl (by kernel_rfl) (by kernel_rfl) (h_free rfl) ?_ ?_ ?_; rotate_left; (focus (intro v hv; go_simp; rfl)); go_simp)
  (refine h_read 3 rfl (by kernel_rfl) (by kernel_rfl) (h_free rfl) ?_ ?_ ?_; rotate_left; (focus (intro v hv; go_simp; rfl)); go_simp)
  (refine h_read 4 rfl (by kernel_rfl) (by kernel_rfl) ?_ ?_ ?_ ?_; (focus (go_simp; done)); rotate_left; (focus (intro v hv; go_simp; rfl)); go_simp)
  (refine h_read 6 rfl (by kernel_rfl) (by kernel_rfl) ?_ ?_ ?_ ?_; (focus (go_simp; done)); rotate_left; (focus (intro v hv; refine run_cells 25 (.tmp 3) ?_ w.heap.size 0 ?_ (bdC cp a n c) _ (fun j' u' hj => by rw [Nat.zero_add, hv.cellV]; exact hj) Try.underlying25 rfl bd_size; (focus rfl); go_simp)); go_simp)
  (refine h_call 5 rfl (by kernel_rfl) ?_ 16 ?_ ?_ ?_; (focus (go_simp; done)); rotate_left; (focus (go_simp; rfl)))
  refine (HRB.out po k1 P11.out).mono ?_
  rintro z k2 ⟨a12, c12, rfl, hN, hP, hg⟩
  have R12 := Lib.hid (R11.out.gw hg PB.out.1)
  have C12 := Lib.hid (C11.out.trans (hg.below PB.out.2 C11.out.size))
  have P12 := Lib.hid hP
  have N12 := Lib.hid (fin_bd (hN.lso shOk) HL.out HFL.out)
  clear hN hP hg
  refine ⟨_, rfl, R12.out, ?_⟩
  go_simp
  (refine h_call 7 rfl (by kernel_rfl) ?_ 12 ?_ ?_ ?_; (focus (go_simp; done)); rotate_left; (focus (go_simp; rfl)))
  refine (pbsame _ _ ⟨cp, L⟩ ⟨cp, L⟩ k2 (bdv I1.out N12.out) (bdv I1.out (HLL.out k2 C12.out)) true ⟨fun _ => rfl, fun _ => rfl⟩).mono ?_
  rintro z k3 ⟨rfl, hb⟩
  have C13 := Lib.hid (C12.out.trans (hb.mono C12.out.size))
  have R13 := Lib.hid (R12.out.below hb R12.out.lt)
  have P13 := Lib.hid (P12.out.mono hb)
  clear hb
  refine ⟨_, rfl, R13.out, ?_⟩
  go_simp
  (refine h_read 8 rfl (by kernel_rfl) (by kernel_rfl) ?_ ?_ ?_ ?_; (focus (go_simp; done)); rotate_left; (focus (intro v hv; go_simp; rfl)); go_simp)
  (refine h_read 9 rfl (by kernel_rfl) (by kernel_rfl) ?_ ?_ ?_ ?_; (focus (go_simp; done)); rotate_left; (focus (intro v hv; go_simp; rfl)); go_simp)
  (refine h_call 10 rfl (by kernel_rfl) ?_ 25 ?_ ?_ ?_; (focus (go_simp; done)); rotate_left; (focus (go_simp; rfl)))
  refine (pend po [] 0 k3 P13.out).mono ?_
  rw [show endV [] 0 = 0 from rfl]
  rintro z wz ⟨rfl, rfl⟩
  refine ⟨_, rfl, R13.out, ?_⟩
  go_simp
  (refine h_read 11 rfl (by kernel_rfl) (by kernel_rfl) ?_ ?_ ?_ ?_; (focus (go_simp; done)); rotate_left; (focus (intro v hv; go_simp; rfl)); go_simp)
  (refine h_read 12 rfl (by kernel_rfl) (by kernel_rfl) ?_ ?_ ?_ ?_; (focus (go_simp; done)); rotate_left; (focus (intro v hv; go_simp; rfl)); go_simp)
  (refine h_read 13 rfl (by kernel_rfl) (by kernel_rfl) (h_free rfl) ?_ ?_ ?_; rotate_left; (focus (intro v hv; go_simp; rfl)); go_simp)
  (refine h_read 14 rfl (by kernel_rfl) (by kernel_rfl) (h_free rfl) ?_ ?_ ?_; rotate_left; (focus (intro v hv; go_simp; rfl)); go_simp)
  (refine h_call 15 rfl (by kernel_rfl) ?_ 13 ?_ ?_ ?_; (focus (go_simp; done)); rotate_left; (focus (go_simp; rfl)))
  refine (HA.out k3).mono ?_
  rintro z k4 ⟨rfl, hb⟩
  have C14 := Lib.hid (C13.out.trans (hb.mono C13.out.size))
  have R14 := Lib.hid (R13.out.below hb R13.out.lt)
  clear hb
  refine ⟨_, rfl, R14.out, ?_⟩
  go_simp
  (refine h_read 16 rfl (by kernel_rfl) (by kernel_rfl) (h_free rfl) ?_ ?_ ?_; rotate_left; (focus (intro v hv; go_simp; rfl)); go_simp)
  (refine h_read 17 rfl (by kernel_rfl) (by kernel_rfl) (h_free rfl) ?_ ?_ ?_; rotate_left; (focus (intro v hv; go_simp; rfl)); go_simp)
  refine h_done (by kernel_rfl) ?_
  go_wp2_with fail
  go_ret
  exact ⟨by first | rfl | exact one (vbool (by simp)), C14.out⟩
end Go.Proofs.Ytkmdbdieloimiaa.W
