/- LAYER 21 (revoke): the law RevokeCodes. -/
import Derived.Test.YtiopcojkdglapaaRvE
import Derived.Test.YtiopcojkdglapaaRvL
set_option linter.unusedSimpArgs false
set_option linter.unusedVariables false
namespace Go.Proofs.Ytiopcojkdglapaa.W
open Go Go.ChangeShapes Go.WideShapes Go.ChangeAt Go.RowKit
open Go.Proofs.Ytiopcojkdglapaa.P (enc dec)
open Go.Proofs.Ytiopcojkdglapaa.S

/-- one, and where its ids lie -/
structure RvX where
  r : Rv
  a : Option Addr
  m : Nat
  c : Nat
@[reducible] def RvX.val (x : RvX) : Value := .agg (rvC x.r.ep x.r.nx x.a x.m x.c).toArray
structure RvI (w : World) (x : RvX) : Prop where
  l : Ls intE w x.a x.m x.c x.r.ids
  e : SI64 x.r.ep
  n : SI64 x.r.nx
section
variable {H : Type} {enc : TypeId × Value → H} {w : World} {base : Nat} {held : Bool}
theorem int_cells {fuel : Nat} {cs : List Value} {x : DataW H × List MemPlace} (h : DataW.trod enc Try.prog w base (fun _ => true) held fuel 3 cs = some x) : ∃ y : Int, cs = intE.cells y ∧ SI64 y := by
  obtain ⟨n0, e0, -, w0⟩ := DataW.trod_int Try.underlying3 h
  exact ⟨n0, e0, bd w0⟩
set_option maxRecDepth 100000 in
theorem rvx_open {base' : Nat} {v : Value} {d : DataW H} {pl : List MemPlace} (hv : Value.okWide Try.prog w .any base' 78 v) (h : DataW.Trod enc Try.prog w base (fun _ => true) held 78 v d pl) : ∃ x : RvX, v = x.val ∧ RvI w x := by
  obtain ⟨fuel, hf⟩ := h
  obtain ⟨cs, rfl, -⟩ := okWide_struct Try.underlying78 hv
  obtain ⟨xs, n, hn, -, hl, hlen, hf⟩ := DataW.trod_struct Try.underlying78 hf
  have hcl : Try.prog.cellsOf 78 = 3 := by kernel_rfl
  rw [hcl] at hl
  have f0 := hf 0 _ rfl
  have f1 := hf 1 _ rfl
  have f2 := hf 2 _ rfl
  have c1 : Try.prog.cellsOf 3 = 1 := by kernel_rfl
  have c2 : Try.prog.cellsOf 76 = 1 := by kernel_rfl
  obtain ⟨zs, hzs⟩ : ∃ zs, (Value.agg cs).cells.toList = zs := ⟨_, rfl⟩
  rw [hzs] at hl f0 f1 f2
  match zs, hl with
  | [v0, v1, v2], _ =>
    match xs, hlen with
    | [x0, x1, x2], _ =>
    simp [c1] at f0 f1
    simp [c1, c2] at f2
    obtain ⟨n0, e0, -, w0⟩ := DataW.trod_int Try.underlying3 f0
    obtain ⟨n1, e1, -, w1⟩ := DataW.trod_int Try.underlying3 f1
    obtain ⟨a, m, c, L, e2, hL⟩ := ls_cells intOk (by kernel_rfl) (fun hx => int_cells hx) f2
    simp at e0 e1 e2
    subst e0 e1 e2
    simp [Value.cells] at hzs
    exact ⟨⟨⟨n0, n1, L⟩, a, m, c⟩, by show Value.agg cs = Value.agg _; congr 1; apply Array.ext'; rw [hzs], hL, bd w0, bd w1⟩
end
theorem readRv_fit (l : List UInt8) (e : Int) : ∀ s ∈ (readRv l e).1.ids, SI64 s := by
  unfold readRv endRv
  dsimp only
  split
  · split
    · exact rdIs_fit _ _ _
    · intro s hs; cases hs
  · intro s hs; cases hs
theorem readRv_len (l : List UInt8) (e : Int) : (readRv l e).1.ids.length ≤ 16 := by
  unfold readRv endRv
  dsimp only
  split
  · split
    · rw [rdIs_len]; have := rv_num_le 16 (by decide) (numR 2147483648 (numR 2147483648 l e).2.1 (numR 2147483648 l e).2.2).2.1 (numR 2147483648 (numR 2147483648 l e).2.1 (numR 2147483648 l e).2.2).2.2; omega
    · simp [rvZ]
  · simp [rvZ]
/-- the two values' rows, and the two readers -/
structure RC2 (w0 w : World) (gA gB : Nat) (CA CB : List Value) (p q : Nat) (lp : List UInt8) (ep : Int) (lq : List UInt8) (eq : Int) : Prop where
  rA : Row w gA 78 CA
  rB : Row w gB 78 CB
  P : RP w p lp ep
  Q : RR w q lq eq
  B : Below w0.heap.size w0 w
  pb : w0.heap.size ≤ p
  qb : w0.heap.size ≤ q
  pA : gA ≠ p
  pB : gB ≠ p
  qA : gA ≠ q
  qB : gB ≠ q
section
variable {w0 w w' : World} {gA gB p q : Nat} {CA CB : List Value} {lp lq : List UInt8} {ep eq : Int}
theorem RC2.grow (h : RC2 w0 w gA gB CA CB p q lp ep lq eq) (hb : Below w.heap.size w w') : RC2 w0 w' gA gB CA CB p q lp ep lq eq :=
  ⟨h.rA.below hb h.rA.lt, h.rB.below hb h.rB.lt, h.P.mono hb, h.Q.mono hb, h.B.trans (hb.mono h.B.size), h.pb, h.qb, h.pA, h.pB, h.qA, h.qB⟩
theorem RC2.rdP (h : RC2 w0 w gA gB CA CB p q lp ep lq eq) {l' : List UInt8} {e' : Int} (hP : RP w' p l' e') (hg : Gw p w w') : RC2 w0 w' gA gB CA CB p q l' e' lq eq :=
  ⟨h.rA.gw hg h.pA, h.rB.gw hg h.pB, hP, h.Q.gw h.P hg, h.B.trans (hg.below h.pb h.B.size), h.pb, h.qb, h.pA, h.pB, h.qA, h.qB⟩
theorem RC2.rdQ (h : RC2 w0 w gA gB CA CB p q lp ep lq eq) {l' : List UInt8} {e' : Int} (hQ : RR w' q l' e') (hg : Gw q w w') : RC2 w0 w' gA gB CA CB p q lp ep l' e' :=
  ⟨h.rA.gw hg h.qA, h.rB.gw hg h.qB, h.P.gw h.Q hg, hQ, h.B.trans (hg.below h.qb h.B.size), h.pb, h.qb, h.pA, h.pB, h.qA, h.qB⟩
end
set_option maxRecDepth 100000 in
set_option maxHeartbeats 32000000 in
theorem law_RevokeCodes (x y : RvX) (ba : Option Addr) (bm bc : Nat) (zb : List Int) (w : World) (hx : RvI w x) (hy : RvI w y) (hbz : IsRow .u8 w ba bm bc zb) :
    Calls Try.prog 11 #[x.val, y.val, .slice ba bm bc] w fun e w' => e = .returned (.bool true) ∧ Below w.heap.size w w' := by
  have hb := Rd.of_row hbz
  obtain ⟨lb, hlb⟩ : ∃ l, ((zb.take bm).map fun n => UInt8.ofNat n.toNat) = l := ⟨_, rfl⟩
  rw [hlb] at hb
  clear hlb hbz
  obtain ⟨⟨ep, nx, L⟩, a, n, c⟩ := x
  obtain ⟨⟨ep2, nx2, M⟩, a2, n2, c2⟩ := y
  obtain ⟨hl, i1, i2⟩ := hx
  obtain ⟨hl2, i3, i4⟩ := hy
  dsimp only at hl i1 i2 hl2 i3 i4 ⊢
  have HL := Lib.hid hl.hlen
  have HB := Lib.hid hb
  have LZS := Lib.hid rv_size
  have LZ := Lib.hid rv_zero
  have HA := Lib.hid (fun w => awake21 w)
  have hmx1 := hl.hmax
  have hle1 := hl.hle
  have hmx2 := hl2.hmax
  have hle2 := hl2.hle
  have hmx3 := hb.hmax
  have hle3 := hb.hle
  by_cases hall : n ≤ 60 ∧ n2 ≤ 60 ∧ bm ≤ 2000
  case neg =>
    clear hl hl2 hb i1 i2 i3 i4
    by_cases f1 : n ≤ 60
    rotate_left
    · clear hall
      have g1 : (60 : Int) < (n : Int) := by omega
      go_enter Try.func11, Try.ntmps11
      go_wp2_with (first
        | ((with_reducible refine box_row (o := ⟨some 3, _, _, _, _, _⟩) rfl _ _ rfl (rvC ep nx a n c) rfl ?_); intro w1 hr hb hz; have RA1 := Lib.hid hr; have B1 := Lib.hid hb; clear hr hb hz)
        | ((with_reducible refine box_row (o := ⟨some 4, _, _, _, _, _⟩) rfl _ _ rfl (rvC ep2 nx2 a2 n2 c2) rfl ?_); intro w4 hr hb hz; have RB4 := Lib.hid hr; have RA4 := Lib.hid (RA1.out.below hb RA1.out.lt); have B4 := Lib.hid (B1.out.trans (hb.mono B1.out.size)); have k2 := RA4.out.r3.2.2; have m2 := RB4.out.r3.2.2; clear hr hb hz)
        | (go_at_call 57; (with_reducible refine (HA.out _).mono ?_); rintro x wb ⟨rfl, hb⟩; have Bb := Lib.hid (B4.out.trans (hb.mono B4.out.size)); clear hb))
      go_ret
      exact ⟨rfl, Bb.out⟩
    by_cases f2 : n2 ≤ 60
    rotate_left
    · clear hall
      have g1 : ¬ (60 : Int) < (n : Int) := by omega
      have g2 : (60 : Int) < (n2 : Int) := by omega
      go_enter Try.func11, Try.ntmps11
      go_wp2_with (first
        | ((with_reducible refine box_row (o := ⟨some 3, _, _, _, _, _⟩) rfl _ _ rfl (rvC ep nx a n c) rfl ?_); intro w1 hr hb hz; have RA1 := Lib.hid hr; have B1 := Lib.hid hb; clear hr hb hz)
        | ((with_reducible refine box_row (o := ⟨some 4, _, _, _, _, _⟩) rfl _ _ rfl (rvC ep2 nx2 a2 n2 c2) rfl ?_); intro w4 hr hb hz; have RB4 := Lib.hid hr; have RA4 := Lib.hid (RA1.out.below hb RA1.out.lt); have B4 := Lib.hid (B1.out.trans (hb.mono B1.out.size)); have k2 := RA4.out.r3.2.2; have m2 := RB4.out.r3.2.2; clear hr hb hz)
        | (go_at_call 57; (with_reducible refine (HA.out _).mono ?_); rintro x wb ⟨rfl, hb⟩; have Bb := Lib.hid (B4.out.trans (hb.mono B4.out.size)); clear hb))
      go_ret
      exact ⟨rfl, Bb.out⟩
    · have g1 : ¬ (60 : Int) < (n : Int) := by omega
      have g2 : ¬ (60 : Int) < (n2 : Int) := by omega
      have g3 : (2000 : Int) < (bm : Int) := by omega
      clear hall
      go_enter Try.func11, Try.ntmps11
      go_wp2_with (first
        | ((with_reducible refine box_row (o := ⟨some 3, _, _, _, _, _⟩) rfl _ _ rfl (rvC ep nx a n c) rfl ?_); intro w1 hr hb hz; have RA1 := Lib.hid hr; have B1 := Lib.hid hb; clear hr hb hz)
        | ((with_reducible refine box_row (o := ⟨some 4, _, _, _, _, _⟩) rfl _ _ rfl (rvC ep2 nx2 a2 n2 c2) rfl ?_); intro w4 hr hb hz; have RB4 := Lib.hid hr; have RA4 := Lib.hid (RA1.out.below hb RA1.out.lt); have B4 := Lib.hid (B1.out.trans (hb.mono B1.out.size)); have k2 := RA4.out.r3.2.2; have m2 := RB4.out.r3.2.2; clear hr hb hz)
        | (go_at_call 57; (with_reducible refine (HA.out _).mono ?_); rintro x wb ⟨rfl, hb⟩; have Bb := Lib.hid (B4.out.trans (hb.mono B4.out.size)); clear hb))
      go_ret
      exact ⟨rfl, Bb.out⟩
  obtain ⟨f1, f2, f3⟩ := hall
  have g1 : ¬ (60 : Int) < (n : Int) := by omega
  have g2 : ¬ (60 : Int) < (n2 : Int) := by omega
  have g3 : ¬ (2000 : Int) < (bm : Int) := by omega
  have hfit := readRv_fit lb 0
  have hlen := readRv_len lb 0
  obtain ⟨Z, lz, ez, hz⟩ : ∃ x y z, readRv lb 0 = (x, y, z) := ⟨_, _, _, rfl⟩
  have HPR := Lib.hid (fun p w' (hp : RP w' p lb 0) => prread p lb 0 w' hp)
  have HYR := Lib.hid (fun p w' (hp : RR w' p lb 0) => zread p lb 0 w' hp)
  simp only [hz] at HPR HYR
  rw [hz] at hfit hlen
  dsimp only at hfit hlen
  obtain ⟨ze, zn, ZL⟩ := Z
  dsimp only at HPR HYR hfit hlen
  obtain ⟨m, hm⟩ : ∃ m, ZL.length = m := ⟨_, rfl⟩
  simp only [hm] at HPR HYR
  have hm16 : m ≤ 16 := by rw [← hm]; exact hlen
  have HM := Lib.hid hm
  have HFT := Lib.hid (show ∀ x ∈ ZL, SI64 x from hfit)
  obtain ⟨R, hR⟩ : ∃ R, lb ++ putRv ⟨ep, nx, L⟩ = R := ⟨_, rfl⟩
  have HP1 := Lib.hid (fun w' (hw : Below w.heap.size w w') => prput ba bm bc lb ep nx a n c L w' (hb.mono hw) (by omega) (hl.mono intOk hw) (by omega) i1 i2)
  have HP2 := Lib.hid (fun w' (hw : Below w.heap.size w w') => zput ba bm bc lb ep nx a n c L w' (hb.mono hw) (by omega) (hl.mono intOk hw) (by omega) i1 i2)
  simp only [hR] at HP1 HP2
  obtain ⟨V, hV⟩ : ∃ V : Bool, Rv.same ⟨ep, nx, L⟩ ⟨ep2, nx2, M⟩ = V := ⟨_, rfl⟩
  have HE1 := Lib.hid (fun w' (hw : Below w.heap.size w w') => prsame ep nx a n c L ep2 nx2 a2 n2 c2 M w' (hl.sl.mono hw) (hl2.sl.mono hw) (by omega) (by omega) V hV)
  have HE2 := Lib.hid (fun w' (hw : Below w.heap.size w w') => zsame ep nx a n c L ep2 nx2 a2 n2 c2 M w' (hl.sl.mono hw) (hl2.sl.mono hw) (by omega) (by omega) V hV)
  have HSS := Lib.hid (same_refl ⟨ze, zn, ZL⟩)
  clear hl hl2 hb i1 i2 i3 i4 hfit hlen hz hm hR hV
  go_enter Try.func11, Try.ntmps11
  go_wp2_with (first
    | ((with_reducible refine box_row (o := ⟨some 3, _, _, _, _, _⟩) rfl _ _ rfl (rvC ep nx a n c) rfl ?_); intro w1 hr hb hz; have RA1 := Lib.hid hr; have B1 := Lib.hid hb; clear hr hb hz)
    | ((with_reducible refine box_row (o := ⟨some 4, _, _, _, _, _⟩) rfl _ _ rfl (rvC ep2 nx2 a2 n2 c2) rfl ?_); intro w4 hr hb hz; have RB4 := Lib.hid hr; have RA4 := Lib.hid (RA1.out.below hb RA1.out.lt); have B4 := Lib.hid (B1.out.trans (hb.mono B1.out.size)); have k2 := RA4.out.r3.2.2; have m2 := RB4.out.r3.2.2; clear hr hb hz)
    | (go_at_call 27; (with_reducible refine (popen ba bm bc lb w4 (HB.out.mono B4.out) (by omega)).mono ?_); rintro x w5 ⟨p, rfl, hp1, hp2, hb⟩; have P5 := Lib.hid hp2; have PW := Lib.hid hp1; have RA5 := Lib.hid (RA4.out.below hb RA4.out.lt); have RB5 := Lib.hid (RB4.out.below hb RB4.out.lt); have B5 := Lib.hid (B4.out.trans (hb.mono B4.out.size)); clear hp1 hp2 hb)
    | (go_at_call 28; (with_reducible refine (ropen ba bm bc lb w5 (HB.out.mono B5.out) (by omega)).mono ?_); rintro x w6 ⟨qq, rfl, hq1, hq2, hb⟩; have C6 := Lib.hid (show RC2 w w6 w.heap.size w1.heap.size (rvC ep nx a n c) (rvC ep2 nx2 a2 n2 c2) p qq lb 0 lb 0 from ⟨RA5.out.below hb RA5.out.lt, RB5.out.below hb RB5.out.lt, P5.out.mono hb, hq2, B5.out.trans (hb.mono B5.out.size), Nat.le_trans B4.out.size PW.out, Nat.le_trans B5.out.size hq1, Nat.ne_of_lt (Nat.lt_of_lt_of_le RA4.out.lt PW.out), Nat.ne_of_lt (Nat.lt_of_lt_of_le RB4.out.lt PW.out), Nat.ne_of_lt (Nat.lt_of_lt_of_le RA5.out.lt hq1), Nat.ne_of_lt (Nat.lt_of_lt_of_le RB5.out.lt hq1)⟩); clear hq1 hq2 hb k2 m2)
    | (go_at_call 58; (with_reducible refine (HPR.out p w6 C6.out.P).mono ?_); rintro x w7 ⟨a7, c7, rfl, hN, hP, hg⟩; have N7 := Lib.hid hN; have C7 := Lib.hid (C6.out.rdP hP hg); clear hN hP hg)
    | (go_at_call 59; (with_reducible refine (HYR.out qq w7 C7.out.Q).mono ?_); rintro x w8 ⟨a8, c8, rfl, hN, hQ, hg⟩; have M8 := Lib.hid hN; have N8 := Lib.hid (LsN.rr (by decide) intNb N7.out C7.out.Q hg); have C8 := Lib.hid (C7.out.rdQ hQ hg); clear hN hQ hg)
    | ((with_reducible refine alloc_row (o := ⟨some 9, _, _, _, _, _⟩) rfl _ rfl _ LZ.out ?_); intro w9 hr hb hz; have X9 := Lib.hid hr; have M9 := Lib.hid (M8.out.kept hb); have N9 := Lib.hid (N8.out.kept hb); have C9 := Lib.hid (C8.out.grow hb); have BX9 := Lib.hid hb; clear hr hb hz)
    | ((with_reducible refine alloc_row (o := ⟨some 10, _, _, _, _, _⟩) rfl _ rfl _ LZ.out ?_); intro wA hr hb hz; have YA := Lib.hid hr; have XA := Lib.hid (X9.out.below hb X9.out.lt); have MA := Lib.hid (M9.out.kept hb); have NA := Lib.hid (N9.out.kept hb); have CA := Lib.hid (C9.out.grow hb); have BXA := Lib.hid (BX9.out.trans (hb.mono BX9.out.size)); clear hr hb hz)
    | ((with_reducible refine store_row (o := ⟨none, _, _, _, _, _⟩) rfl _ (.tmp 9) _ rfl w8.heap.size (rvC ze zn a7 m c7) ?_ ?_ 78 _ XA.out ?_ ?_ ?_ ?_); (focus go_simp); (focus (first | (go_simp; done) | (go_simp; rfl))); (focus (exact LZS.out)); (focus rfl); (focus (exact rv_one _ _ _ _ _)); intro wB hr hu; have XB := Lib.hid hr; have YB := Lib.hid (YA.out.upd hu (Nat.ne_of_gt X9.out.lt)); have BXB := Lib.hid (BXA.out.trans (hu.below (Nat.le_refl _))); clear hr hu)
    | ((with_reducible refine store_row (o := ⟨none, _, _, _, _, _⟩) rfl _ (.tmp 10) _ rfl w9.heap.size (rvC ze zn a8 m c8) ?_ ?_ 78 _ YB.out ?_ ?_ ?_ ?_); (focus go_simp); (focus (first | (go_simp; done) | (go_simp; rfl))); (focus (exact LZS.out)); (focus rfl); (focus (exact rv_one _ _ _ _ _)); intro wC hr hu; have YC := Lib.hid hr; have XC := Lib.hid (XB.out.upd hu (Nat.ne_of_lt X9.out.lt)); have BXC := Lib.hid (BXB.out.trans (hu.below BX9.out.size)); have CC := Lib.hid (C8.out.grow BXC.out); have NC := Lib.hid (N8.out.kept BXC.out); have MC := Lib.hid (M8.out.kept BXC.out); clear hr hu))
  refine region_h (fun v => Below wC.heap.size wC v) (by kernel_rfl) (by kernel_rfl) (Below.refl _ _).drew ?_
  obtain ⟨d0, hd0⟩ : ∃ wd, wC.drew = wd := ⟨_, rfl⟩
  have J0 : Hid (Below wC.heap.size wC d0) := Lib.hid (by rw [← hd0]; exact (Below.refl _ _).drew)
  rw [hd0]
  clear hd0
  (refine h_read 0 rfl (by kernel_rfl) (by kernel_rfl) (h_free rfl) ?_ ?_ ?_; rotate_left; (focus (intro v hv; go_simp; rfl)); go_simp)
  (refine h_read 1 rfl (by kernel_rfl) (by kernel_rfl) (h_free rfl) ?_ ?_ ?_; rotate_left; (focus (intro v hv; refine run_cells 78 (.tmp 3) ?_ w.heap.size 0 ?_ (rvC ep nx a n c) _ (fun j' u' hj => by rw [hv.cell (p := ⟨w.heap.size, 0 + j', none⟩) CC.out.rA.lt, Nat.zero_add, CC.out.rA.cellV]; exact hj) Try.underlying78 rfl rv_size; (focus rfl); go_simp)); go_simp)
  (refine h_read 3 rfl (by kernel_rfl) (by kernel_rfl) (h_free rfl) ?_ ?_ ?_; rotate_left; (focus (intro v hv; go_simp; rfl)); go_simp)
  (refine h_read 4 rfl (by kernel_rfl) (by kernel_rfl) (h_free rfl) ?_ ?_ ?_; rotate_left; (focus (intro v hv; refine run_cells 78 (.tmp 3) ?_ w.heap.size 0 ?_ (rvC ep nx a n c) _ (fun j' u' hj => by rw [hv.cell (p := ⟨w.heap.size, 0 + j', none⟩) CC.out.rA.lt, Nat.zero_add, CC.out.rA.cellV]; exact hj) Try.underlying78 rfl rv_size; (focus rfl); go_simp)); go_simp)
  (refine h_call 2 rfl (by kernel_rfl) (h_free rfl) 60 ?_ ?_ ?_; rotate_left; (focus (go_simp; rfl)))
  refine (HP1.out d0 (CC.out.B.trans (J0.out.mono CC.out.B.size))).mono ?_
  rintro z d1 ⟨v1, rfl, hf, hb⟩
  have J1 := Lib.hid (J0.out.trans (hb.mono J0.out.size))
  have F1 := Lib.hid hf
  clear hf
  clear hb
  refine ⟨_, rfl, J1.out, ?_⟩
  go_simp
  (refine h_call 5 rfl (by kernel_rfl) (h_free rfl) 61 ?_ ?_ ?_; rotate_left; (focus (go_simp; rfl)))
  refine (HP2.out d1 (CC.out.B.trans (J1.out.mono CC.out.B.size))).mono ?_
  rintro z d2 ⟨v2, rfl, hf, hb⟩
  have J2 := Lib.hid (J1.out.trans (hb.mono J1.out.size))
  obtain ⟨rl, hrl⟩ : ∃ rl, R.length = rl := ⟨_, rfl⟩
  obtain ⟨y2, e2, hv2, hr2⟩ := hf.form' rl hrl
  obtain ⟨y1, e1, hv1, hr1⟩ := (F1.out.kept hb).form' rl hrl
  subst hv1 hv2
  have K1 := Lib.hid hr1
  have K2 := Lib.hid hr2
  clear hf hr1 hr2 hrl
  clear hb
  refine ⟨_, rfl, J2.out, ?_⟩
  go_simp
  (refine h_call 6 rfl (by kernel_rfl) (h_free rfl) 31 ?_ ?_ ?_; rotate_left; (focus (go_simp; rfl)))
  refine (sequal y1 y2 rl rl e1 e2 R R d2 K1.out K2.out).mono ?_
  rw [decide_eq_true rfl]
  rintro z d3 ⟨rfl, hq⟩
  have J3 := Lib.hid (J2.out.trans ((hq.below d2.heap.size).mono J2.out.size))
  clear hq
  refine ⟨_, rfl, J3.out, ?_⟩
  go_simp
  (refine h_read 7 rfl (by kernel_rfl) (by kernel_rfl) (h_free rfl) ?_ ?_ ?_; rotate_left; (focus (intro v hv; go_simp; rfl)); go_simp)
  (refine h_read 8 rfl (by kernel_rfl) (by kernel_rfl) ?_ ?_ ?_ ?_; (focus (go_simp; done)); rotate_left; (focus (intro v hv; refine run_cells 78 (.tmp 9) ?_ w8.heap.size 0 ?_ (rvC ze zn a7 m c7) _ (fun j' u' hj => by rw [hv.cell (p := ⟨w8.heap.size, 0 + j', none⟩) XC.out.lt, Nat.zero_add, XC.out.cellV]; exact hj) Try.underlying78 rfl rv_size; (focus rfl); go_simp)); go_simp)
  (refine h_read 9 rfl (by kernel_rfl) (by kernel_rfl) ?_ ?_ ?_ ?_; (focus (go_simp; done)); rotate_left; (focus (intro v hv; refine run_cells 78 (.tmp 10) ?_ w9.heap.size 0 ?_ (rvC ze zn a8 m c8) _ (fun j' u' hj => by rw [hv.cell (p := ⟨w9.heap.size, 0 + j', none⟩) YC.out.lt, Nat.zero_add, YC.out.cellV]; exact hj) Try.underlying78 rfl rv_size; (focus rfl); go_simp)); go_simp)
  (refine h_call 10 rfl (by kernel_rfl) ?_ 62 ?_ ?_ ?_; (focus (go_simp; done)); rotate_left; (focus (go_simp; rfl)))
  refine (zsame ze zn a7 m c7 ZL ze zn a8 m c8 ZL d3 (int_out ((NC.out.kept J3.out).lso intOk) HM.out HFT.out).1.sl (int_out ((MC.out.kept J3.out).lso intOk) HM.out HFT.out).1.sl (by omega) (by omega) true HSS.out).mono ?_
  rintro z d4 ⟨rfl, hb⟩
  have J4 := Lib.hid (J3.out.trans (hb.mono J3.out.size))
  clear hb
  refine ⟨_, rfl, J4.out, ?_⟩
  go_simp
  (refine h_read 11 rfl (by kernel_rfl) (by kernel_rfl) (h_free rfl) ?_ ?_ ?_; rotate_left; (focus (intro v hv; go_simp; rfl)); go_simp)
  (refine h_read 12 rfl (by kernel_rfl) (by kernel_rfl) (h_free rfl) ?_ ?_ ?_; rotate_left; (focus (intro v hv; go_simp; rfl)); go_simp)
  (refine h_read 13 rfl (by kernel_rfl) (by kernel_rfl) ?_ ?_ ?_ ?_; (focus (go_simp; done)); rotate_left; (focus (intro v hv; go_simp; rfl)); go_simp)
  (refine h_read 15 rfl (by kernel_rfl) (by kernel_rfl) ?_ ?_ ?_ ?_; (focus (go_simp; done)); rotate_left; (focus (intro v hv; go_simp; rfl)); go_simp)
  (refine h_call 14 rfl (by kernel_rfl) ?_ 34 ?_ ?_ ?_; (focus (go_simp; done)); rotate_left; (focus (go_simp; rfl)))
  refine (perr p lz ez d4 (CC.out.P.mono J4.out)).mono ?_
  rintro z wz ⟨rfl, rfl⟩
  refine ⟨_, rfl, J4.out, ?_⟩
  go_simp
  (refine h_call 16 rfl (by kernel_rfl) ?_ 35 ?_ ?_ ?_; (focus (go_simp; done)); rotate_left; (focus (go_simp; rfl)))
  refine (rerr qq lz ez d4 (CC.out.Q.mono J4.out)).mono ?_
  rintro z wz ⟨rfl, rfl⟩
  refine ⟨_, rfl, J4.out, ?_⟩
  go_simp
  (refine h_read 17 rfl (by kernel_rfl) (by kernel_rfl) ?_ ?_ ?_ ?_; (focus (go_simp; done)); rotate_left; (focus (intro v hv; go_simp; rfl)); go_simp)
  (refine h_read 18 rfl (by kernel_rfl) (by kernel_rfl) (h_free rfl) ?_ ?_ ?_; rotate_left; (focus (intro v hv; go_simp; rfl)); go_simp)
  (refine h_read 19 rfl (by kernel_rfl) (by kernel_rfl) (h_free rfl) ?_ ?_ ?_; rotate_left; (focus (intro v hv; go_simp; rfl)); go_simp)
  (refine h_read 20 rfl (by kernel_rfl) (by kernel_rfl) ?_ ?_ ?_ ?_; (focus (go_simp; done)); rotate_left; (focus (intro v hv; go_simp; rfl)); go_simp)
  (refine h_read 22 rfl (by kernel_rfl) (by kernel_rfl) ?_ ?_ ?_ ?_; (focus (go_simp; done)); rotate_left; (focus (intro v hv; go_simp; rfl)); go_simp)
  (refine h_call 21 rfl (by kernel_rfl) ?_ 36 ?_ ?_ ?_; (focus (go_simp; done)); rotate_left; (focus (go_simp; rfl)))
  refine (pleft p lz ez d4 (CC.out.P.mono J4.out)).mono ?_
  rintro z wz ⟨rfl, rfl⟩
  refine ⟨_, rfl, J4.out, ?_⟩
  go_simp
  (refine h_call 23 rfl (by kernel_rfl) ?_ 37 ?_ ?_ ?_; (focus (go_simp; done)); rotate_left; (focus (go_simp; rfl)))
  refine (rleft qq lz ez d4 (CC.out.Q.mono J4.out)).mono ?_
  rintro z wz ⟨rfl, rfl⟩
  refine ⟨_, rfl, J4.out, ?_⟩
  go_simp
  (refine h_read 24 rfl (by kernel_rfl) (by kernel_rfl) ?_ ?_ ?_ ?_; (focus (go_simp; done)); rotate_left; (focus (intro v hv; go_simp; rfl)); go_simp)
  (refine h_read 25 rfl (by kernel_rfl) (by kernel_rfl) (h_free rfl) ?_ ?_ ?_; rotate_left; (focus (intro v hv; go_simp; rfl)); go_simp)
  (refine h_read 26 rfl (by kernel_rfl) (by kernel_rfl) (h_free rfl) ?_ ?_ ?_; rotate_left; (focus (intro v hv; go_simp; rfl)); go_simp)
  (refine h_read 27 rfl (by kernel_rfl) (by kernel_rfl) ?_ ?_ ?_ ?_; (focus (go_simp; done)); rotate_left; (focus (intro v hv; refine run_cells 78 (.tmp 3) ?_ w.heap.size 0 ?_ (rvC ep nx a n c) _ (fun j' u' hj => by rw [hv.cell (p := ⟨w.heap.size, 0 + j', none⟩) CC.out.rA.lt, Nat.zero_add, CC.out.rA.cellV]; exact hj) Try.underlying78 rfl rv_size; (focus rfl); go_simp)); go_simp)
  (refine h_read 28 rfl (by kernel_rfl) (by kernel_rfl) ?_ ?_ ?_ ?_; (focus (go_simp; done)); rotate_left; (focus (intro v hv; refine run_cells 78 (.tmp 4) ?_ w1.heap.size 0 ?_ (rvC ep2 nx2 a2 n2 c2) _ (fun j' u' hj => by rw [hv.cell (p := ⟨w1.heap.size, 0 + j', none⟩) CC.out.rB.lt, Nat.zero_add, CC.out.rB.cellV]; exact hj) Try.underlying78 rfl rv_size; (focus rfl); go_simp)); go_simp)
  (refine h_read 30 rfl (by kernel_rfl) (by kernel_rfl) ?_ ?_ ?_ ?_; (focus (go_simp; done)); rotate_left; (focus (intro v hv; refine run_cells 78 (.tmp 3) ?_ w.heap.size 0 ?_ (rvC ep nx a n c) _ (fun j' u' hj => by rw [hv.cell (p := ⟨w.heap.size, 0 + j', none⟩) CC.out.rA.lt, Nat.zero_add, CC.out.rA.cellV]; exact hj) Try.underlying78 rfl rv_size; (focus rfl); go_simp)); go_simp)
  (refine h_read 31 rfl (by kernel_rfl) (by kernel_rfl) ?_ ?_ ?_ ?_; (focus (go_simp; done)); rotate_left; (focus (intro v hv; refine run_cells 78 (.tmp 4) ?_ w1.heap.size 0 ?_ (rvC ep2 nx2 a2 n2 c2) _ (fun j' u' hj => by rw [hv.cell (p := ⟨w1.heap.size, 0 + j', none⟩) CC.out.rB.lt, Nat.zero_add, CC.out.rB.cellV]; exact hj) Try.underlying78 rfl rv_size; (focus rfl); go_simp)); go_simp)
  (refine h_call 29 rfl (by kernel_rfl) ?_ 63 ?_ ?_ ?_; (focus (go_simp; done)); rotate_left; (focus (go_simp; rfl)))
  refine (HE1.out d4 (CC.out.B.trans (J4.out.mono CC.out.B.size))).mono ?_
  rintro z d5 ⟨rfl, hb⟩
  have J5 := Lib.hid (J4.out.trans (hb.mono J4.out.size))
  clear hb
  refine ⟨_, rfl, J5.out, ?_⟩
  go_simp
  (refine h_call 32 rfl (by kernel_rfl) ?_ 62 ?_ ?_ ?_; (focus (go_simp; done)); rotate_left; (focus (go_simp; rfl)))
  refine (HE2.out d5 (CC.out.B.trans (J5.out.mono CC.out.B.size))).mono ?_
  rintro z d6 ⟨rfl, hb⟩
  have J6 := Lib.hid (J5.out.trans (hb.mono J5.out.size))
  clear hb
  refine ⟨_, rfl, J6.out, ?_⟩
  go_simp
  (refine h_read 33 rfl (by kernel_rfl) (by kernel_rfl) ?_ ?_ ?_ ?_; (focus (go_simp; done)); rotate_left; (focus (intro v hv; go_simp; rfl)); go_simp)
  (refine h_read 34 rfl (by kernel_rfl) (by kernel_rfl) (h_free rfl) ?_ ?_ ?_; rotate_left; (focus (intro v hv; go_simp; rfl)); go_simp)
  (refine h_read 35 rfl (by kernel_rfl) (by kernel_rfl) (h_free rfl) ?_ ?_ ?_; rotate_left; (focus (intro v hv; go_simp; rfl)); go_simp)
  (refine h_call 36 rfl (by kernel_rfl) ?_ 57 ?_ ?_ ?_; (focus (go_simp; done)); rotate_left; (focus (go_simp; rfl)))
  refine (HA.out d6).mono ?_
  rintro z d7 ⟨rfl, hb⟩
  have J7 := Lib.hid (J6.out.trans (hb.mono J6.out.size))
  clear hb
  refine ⟨_, rfl, J7.out, ?_⟩
  go_simp
  (refine h_read 37 rfl (by kernel_rfl) (by kernel_rfl) (h_free rfl) ?_ ?_ ?_; rotate_left; (focus (intro v hv; go_simp; rfl)); go_simp)
  (refine h_read 38 rfl (by kernel_rfl) (by kernel_rfl) (h_free rfl) ?_ ?_ ?_; rotate_left; (focus (intro v hv; go_simp; rfl)); go_simp)
  refine h_done (by kernel_rfl) ?_
  have BF := Lib.hid (CC.out.B.trans (J7.out.mono CC.out.B.size))
  go_wp2_with fail
  go_ret
  exact ⟨by first | rfl | exact one (vbool (by simp)), BF.out⟩
end Go.Proofs.Ytiopcojkdglapaa.W
