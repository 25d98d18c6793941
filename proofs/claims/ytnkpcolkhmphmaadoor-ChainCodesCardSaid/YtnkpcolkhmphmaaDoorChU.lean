/- LAYER 22 (chain): the law Codes. -/
import Derived.Test.YtnkpcolkhmphmaaDoorChT
set_option linter.unusedSimpArgs false
set_option linter.unusedVariables false
namespace Go.Proofs.YtnkpcolkhmphmaaDoor.W
open Go Go.ChangeShapes Go.WideShapes Go.ChangeAt Go.RowKit
open Go.Proofs.YtnkpcolkhmphmaaDoor.P (enc dec shaL shaL_len)

theorem rd_nil_ch {w : World} : Rd w none 0 0 [] := by
  obtain ⟨a, c, hv, h⟩ := (Fr.nil w 0).form' 0 rfl
  injection hv with e1 e2 e3
  subst e1 e3
  exact h
/-- the chain's row, and the two readers -/
structure RC1 (w0 w : World) (gA : Nat) (CA : List Value) (p q : Nat) (lp : List UInt8) (ep : Int) (lq : List UInt8) (eq : Int) : Prop where
  rA : Row w gA 23 CA
  P : RP w p lp ep
  Q : RR w q lq eq
  B : Below w0.heap.size w0 w
  pb : w0.heap.size ≤ p
  qb : w0.heap.size ≤ q
  pA : gA ≠ p
  qA : gA ≠ q
section
variable {w0 w w' : World} {gA p q : Nat} {CA : List Value} {lp lq : List UInt8} {ep eq : Int}
theorem RC1.grow (h : RC1 w0 w gA CA p q lp ep lq eq) (hb : Below w.heap.size w w') : RC1 w0 w' gA CA p q lp ep lq eq :=
  ⟨h.rA.below hb h.rA.lt, h.P.mono hb, h.Q.mono hb, h.B.trans (hb.mono h.B.size), h.pb, h.qb, h.pA, h.qA⟩
theorem RC1.rdP (h : RC1 w0 w gA CA p q lp ep lq eq) {l' : List UInt8} {e' : Int} (hP : RP w' p l' e') (hg : Gw p w w') : RC1 w0 w' gA CA p q l' e' lq eq :=
  ⟨h.rA.gw hg h.pA, hP, h.Q.gw h.P hg, h.B.trans (hg.below h.pb h.B.size), h.pb, h.qb, h.pA, h.qA⟩
theorem RC1.rdQ (h : RC1 w0 w gA CA p q lp ep lq eq) {l' : List UInt8} {e' : Int} (hQ : RR w' q l' e') (hg : Gw q w w') : RC1 w0 w' gA CA p q lp ep l' e' :=
  ⟨h.rA.gw hg h.qA, h.P.gw h.Q hg, hQ, h.B.trans (hg.below h.qb h.B.size), h.pb, h.qb, h.pA, h.qA⟩
end
set_option maxRecDepth 100000 in
set_option maxHeartbeats 32000000 in
theorem law_ChainCodes (c : Ch) (ba : Option Addr) (bm bc : Nat) (zb : List Int) (w : World) (hK : Ks w) (hc : ChI c) (hbz : IsRow .u8 w ba bm bc zb) :
    Calls Tryd.prog 5 #[.agg (chC c).toArray, .slice ba bm bc] w fun x w' => x = .returned (.bool true) ∧ Below w.heap.size w w' := by
  have hb := Rd.of_row hbz
  obtain ⟨lb, hlb⟩ : ∃ l, ((zb.take bm).map fun n => UInt8.ofNat n.toNat) = l := ⟨_, rfl⟩
  rw [hlb] at hb
  clear hlb hbz
  have HB := Lib.hid hb
  have LZS := Lib.hid ch_size
  have LZ := Lib.hid ch_zero
  have HA := Lib.hid (fun w' (hb : Below w.heap.size w w') => awake22 w' (hK.below hb hK.pos))
  have hmx3 := hb.hmax
  have hle3 := hb.hle
  have hch := hc.h
  unfold maxLen at hch
  by_cases f1 : c.hd.size ≤ 300
  rotate_left
  · have g1 : (300 : Int) < (c.hd.size : Int) := by omega
    clear hb hc hK
    go_enter Tryd.func5, Tryd.ntmps5
    go_wp2_with (first
      | ((with_reducible refine box_row (o := ⟨some 2, _, _, _, _, _⟩) rfl _ _ rfl (chC c) rfl ?_); intro w1 hr hb hz; have RA1 := Lib.hid hr; have B1 := Lib.hid hb; obtain ⟨k0, k1⟩ := hr.c2; clear hr hb hz)
      | (go_at_call 7; (with_reducible refine (HA.out _ B1.out).mono ?_); rintro x wb ⟨rfl, hb⟩; have Bb := Lib.hid (B1.out.trans (hb.mono B1.out.size)); clear hb))
    go_ret
    exact ⟨rfl, Bb.out⟩
  have g1 : ¬ (300 : Int) < (c.hd.size : Int) := by omega
  by_cases f2 : bm ≤ 1000
  rotate_left
  · have g2 : (1000 : Int) < (bm : Int) := by omega
    clear hb hc hK
    go_enter Tryd.func5, Tryd.ntmps5
    go_wp2_with (first
      | ((with_reducible refine box_row (o := ⟨some 2, _, _, _, _, _⟩) rfl _ _ rfl (chC c) rfl ?_); intro w1 hr hb hz; have RA1 := Lib.hid hr; have B1 := Lib.hid hb; obtain ⟨k0, k1⟩ := hr.c2; clear hr hb hz)
      | (go_at_call 7; (with_reducible refine (HA.out _ B1.out).mono ?_); rintro x wb ⟨rfl, hb⟩; have Bb := Lib.hid (B1.out.trans (hb.mono B1.out.size)); clear hb))
    go_ret
    exact ⟨rfl, Bb.out⟩
  have g2 : ¬ (1000 : Int) < (bm : Int) := by omega
  have cf : c.fit := ⟨hc.l, by omega⟩
  have hfit := readC_fit lb 0
  obtain ⟨Z, lz, ez, hz⟩ : ∃ x y z, readC lb 0 = (x, y, z) := ⟨_, _, _, rfl⟩
  have HPR := Lib.hid (fun p w' (hp : RP w' p lb 0) => chread p lb 0 w' hp)
  have HYR := Lib.hid (fun p w' (hp : RR w' p lb 0) => zcread p lb 0 w' hp)
  simp only [hz] at HPR HYR
  rw [hz] at hfit
  dsimp only at HPR HYR hfit
  have HQ1 := Lib.hid (fun w => eqCh Z Z hfit hfit true (by simp) w)
  have HQ2 := Lib.hid (fun w => eqCh c c cf cf true (by simp) w)
  obtain ⟨XZ, hXZ⟩ : ∃ X, (chC Z).toArray = X := ⟨_, rfl⟩
  have HXZ := Lib.hid hXZ
  rw [hXZ] at HPR HYR HQ1
  obtain ⟨R, hR⟩ : ∃ R, lb ++ putC c = R := ⟨_, rfl⟩
  have HP1 := Lib.hid (fun w' (hw : Below w.heap.size w w') => chput ba bm bc lb c w' (hb.mono hw) (by omega) cf)
  have HP2 := Lib.hid (fun w' (hw : Below w.heap.size w w') => zcput ba bm bc lb c w' (hb.mono hw) (by omega) cf)
  have HP3 := Lib.hid (fun w' => chput none 0 0 [] c w' rd_nil_ch (by omega) cf)
  simp only [hR] at HP1 HP2
  simp only [List.nil_append] at HP3
  obtain ⟨T, hT⟩ : ∃ T, putC c = T := ⟨_, rfl⟩
  have hTl : T.length ≤ 100000000 := by
    have h1 := P.enc_len c.len.toNat (by have := cf.l.2; omega)
    have h2 := P.enc_len c.hd.size (by omega)
    have h3 : c.hd.data.toList.length = c.hd.size := Array.length_toList
    rw [← hT]; unfold putC
    simp only [List.length_append, h3]
    omega
  obtain ⟨ok, hok⟩ : ∃ b, c.may = b := ⟨_, rfl⟩
  have HC1 := Lib.hid (fun w' => chmay c w' ok hok (by omega))
  have HC2 := Lib.hid (fun w' => zcmay c w' ok hok (by omega))
  have HRD : ok = true → Hid (∀ p w', RP w' p T 0 → Calls Tryd.prog 19 #[.pointer (some ⟨p, 0, none⟩)] w' fun x w2 => x = .returned (.agg (chC c).toArray) ∧ RP w2 p [] 0 ∧ Gw p w' w2) := fun e => Lib.hid (by
    intro p w' hp
    have hro := read_putC (by rw [hok]; exact e : c.may = true)
    rw [hT] at hro
    have h := chread p T 0 w' hp
    rw [hro] at h
    exact h)
  rw [hT] at HP3
  obtain ⟨XC, hXC⟩ : ∃ X, (chC c).toArray = X := ⟨_, rfl⟩
  have HXC := Lib.hid hXC
  rw [hXC] at HP1 HP2 HC1 HC2 HRD HQ2
  have HTL := Lib.hid hTl
  clear hb hc hK cf hfit hz hR hT hTl hok hXZ hXC
  go_enter Tryd.func5, Tryd.ntmps5
  go_wp2_with (first
    | ((with_reducible refine box_row (o := ⟨some 2, _, _, _, _, _⟩) rfl _ _ rfl (chC c) rfl ?_); intro w1 hr hb hz; have RA1 := Lib.hid hr; have B1 := Lib.hid hb; obtain ⟨k0, k1⟩ := hr.c2; clear hr hb hz)
    | (go_at_call 17; (with_reducible refine (popen ba bm bc lb w1 (HB.out.mono B1.out) (by omega)).mono ?_); rintro x w5 ⟨p, rfl, hp1, hp2, hb⟩; have P5 := Lib.hid hp2; have PW := Lib.hid hp1; have RA5 := Lib.hid (RA1.out.below hb RA1.out.lt); have B5 := Lib.hid (B1.out.trans (hb.mono B1.out.size)); clear hp1 hp2 hb)
    | (go_at_call 18; (with_reducible refine (ropen ba bm bc lb w5 (HB.out.mono B5.out) (by omega)).mono ?_); rintro x w6 ⟨qq, rfl, hq1, hq2, hb⟩; have C6 := Lib.hid (show RC1 w w6 w.heap.size (chC c) p qq lb 0 lb 0 from ⟨RA5.out.below hb RA5.out.lt, P5.out.mono hb, hq2, B5.out.trans (hb.mono B5.out.size), Nat.le_trans B1.out.size PW.out, Nat.le_trans B5.out.size hq1, Nat.ne_of_lt (Nat.lt_of_lt_of_le RA1.out.lt PW.out), Nat.ne_of_lt (Nat.lt_of_lt_of_le RA5.out.lt hq1)⟩); clear hq1 hq2 hb)
    | (go_at_call 19; (with_reducible refine (HPR.out p w6 C6.out.P).mono ?_); rintro x w7 ⟨rfl, hP, hg⟩; have C7 := Lib.hid (C6.out.rdP hP hg); clear hP hg)
    | (go_at_call 20; (with_reducible refine (HYR.out qq w7 C7.out.Q).mono ?_); rintro x w8 ⟨rfl, hQ, hg⟩; have C8 := Lib.hid (C7.out.rdQ hQ hg); clear hQ hg)
    | ((with_reducible refine alloc_row (o := ⟨some 7, _, _, _, _, _⟩) rfl _ rfl _ LZ.out ?_); intro w9 hr hb hz; have X9 := Lib.hid hr; have C9 := Lib.hid (C8.out.grow hb); have BX9 := Lib.hid hb; clear hr hb hz)
    | ((with_reducible refine alloc_row (o := ⟨some 8, _, _, _, _, _⟩) rfl _ rfl _ LZ.out ?_); intro wA hr hb hz; have YA := Lib.hid hr; have XA := Lib.hid (X9.out.below hb X9.out.lt); have BXA := Lib.hid (BX9.out.trans (hb.mono BX9.out.size)); clear hr hb hz)
    | ((with_reducible refine store_row (o := ⟨none, _, _, _, _, _⟩) rfl _ (.tmp 7) _ rfl w8.heap.size (chC Z) ?_ ?_ 23 _ XA.out ?_ ?_ ?_ ?_); (focus go_simp); (focus (go_simp; first | exact HXZ.out.symm | exact congrArg Value.agg HXZ.out.symm | (rw [HXZ.out]))); (focus (exact LZS.out)); (focus rfl); (focus (exact ch_one _)); intro wB hr hu; have XB := Lib.hid hr; have YB := Lib.hid (YA.out.upd hu (Nat.ne_of_gt X9.out.lt)); have BXB := Lib.hid (BXA.out.trans (hu.below (Nat.le_refl _))); clear hr hu)
    | ((with_reducible refine store_row (o := ⟨none, _, _, _, _, _⟩) rfl _ (.tmp 8) _ rfl w9.heap.size (chC Z) ?_ ?_ 23 _ YB.out ?_ ?_ ?_ ?_); (focus go_simp); (focus (go_simp; first | exact HXZ.out.symm | exact congrArg Value.agg HXZ.out.symm | (rw [HXZ.out]))); (focus (exact LZS.out)); (focus rfl); (focus (exact ch_one _)); intro wC hr hu; have YC := Lib.hid hr; have XC' := Lib.hid (XB.out.upd hu (Nat.ne_of_lt X9.out.lt)); have BXC := Lib.hid (BXB.out.trans (hu.below BX9.out.size)); have CC := Lib.hid (C8.out.grow BXC.out); clear hr hu))
  refine region_h (fun v => Below wC.heap.size wC v) (by kernel_rfl) (by kernel_rfl) (Below.refl _ _).drew ?_
  obtain ⟨d0, hd0⟩ : ∃ wd, wC.drew = wd := ⟨_, rfl⟩
  have J0 : Hid (Below wC.heap.size wC d0) := Lib.hid (by rw [← hd0]; exact (Below.refl _ _).drew)
  rw [hd0]
  clear hd0
  have q1 := HQ1.out
  (refine h_read 0 rfl (by kernel_rfl) (by kernel_rfl) (h_free rfl) ?_ ?_ ?_; rotate_left; (focus (intro v hv; refine run_cells 23 (.tmp 7) ?_ w8.heap.size 0 ?_ (chC Z) _ (fun j' u' hj => by rw [hv.cell (p := ⟨w8.heap.size, 0 + j', none⟩) XC'.out.lt, Nat.zero_add, XC'.out.cellV]; exact hj) Tryd.underlying23 rfl ch_size; (focus rfl); go_simp)); rw [HXZ.out]; go_simp)
  (refine h_read 1 rfl (by kernel_rfl) (by kernel_rfl) (h_free rfl) ?_ ?_ ?_; rotate_left; (focus (intro v hv; refine run_cells 23 (.tmp 8) ?_ w9.heap.size 0 ?_ (chC Z) _ (fun j' u' hj => by rw [hv.cell (p := ⟨w9.heap.size, 0 + j', none⟩) YC.out.lt, Nat.zero_add, YC.out.cellV]; exact hj) Tryd.underlying23 rfl ch_size; (focus rfl); go_simp)); rw [HXZ.out]; go_simp)
  (refine h_read 2 rfl (by kernel_rfl) (by kernel_rfl) (h_free rfl) ?_ ?_ ?_; rotate_left; (focus (intro v hv; go_simp; rfl)); go_simp)
  (refine h_read 3 rfl (by kernel_rfl) (by kernel_rfl) (h_free rfl) ?_ ?_ ?_; rotate_left; (focus (intro v hv; go_simp; rfl)); go_simp)
  (refine h_read 4 rfl (by kernel_rfl) (by kernel_rfl) ?_ ?_ ?_ ?_; (focus (go_simp; done)); rotate_left; (focus (intro v hv; go_simp; rfl)); go_simp)
  (refine h_read 6 rfl (by kernel_rfl) (by kernel_rfl) ?_ ?_ ?_ ?_; (focus (go_simp; done)); rotate_left; (focus (intro v hv; go_simp; rfl)); go_simp)
  (refine h_call 5 rfl (by kernel_rfl) ?_ 21 ?_ ?_ ?_; (focus (go_simp; done)); rotate_left; (focus (go_simp; rfl)))
  refine (perr p lz ez d0 (CC.out.P.mono J0.out)).mono ?_
  rintro z wz ⟨rfl, rfl⟩
  refine ⟨_, rfl, J0.out, ?_⟩
  go_simp
  (refine h_call 7 rfl (by kernel_rfl) ?_ 22 ?_ ?_ ?_; (focus (go_simp; done)); rotate_left; (focus (go_simp; rfl)))
  refine (rerr qq lz ez d0 (CC.out.Q.mono J0.out)).mono ?_
  rintro z wz ⟨rfl, rfl⟩
  refine ⟨_, rfl, J0.out, ?_⟩
  go_simp
  (refine h_read 8 rfl (by kernel_rfl) (by kernel_rfl) ?_ ?_ ?_ ?_; (focus (go_simp; done)); rotate_left; (focus (intro v hv; go_simp; rfl)); go_simp)
  (refine h_read 9 rfl (by kernel_rfl) (by kernel_rfl) (h_free rfl) ?_ ?_ ?_; rotate_left; (focus (intro v hv; go_simp; rfl)); go_simp)
  (refine h_read 10 rfl (by kernel_rfl) (by kernel_rfl) (h_free rfl) ?_ ?_ ?_; rotate_left; (focus (intro v hv; go_simp; rfl)); go_simp)
  (refine h_read 11 rfl (by kernel_rfl) (by kernel_rfl) ?_ ?_ ?_ ?_; (focus (go_simp; done)); rotate_left; (focus (intro v hv; go_simp; rfl)); go_simp)
  (refine h_read 13 rfl (by kernel_rfl) (by kernel_rfl) ?_ ?_ ?_ ?_; (focus (go_simp; done)); rotate_left; (focus (intro v hv; go_simp; rfl)); go_simp)
  (refine h_call 12 rfl (by kernel_rfl) ?_ 23 ?_ ?_ ?_; (focus (go_simp; done)); rotate_left; (focus (go_simp; rfl)))
  refine (pleft p lz ez d0 (CC.out.P.mono J0.out)).mono ?_
  rintro z wz ⟨rfl, rfl⟩
  refine ⟨_, rfl, J0.out, ?_⟩
  go_simp
  (refine h_call 14 rfl (by kernel_rfl) ?_ 24 ?_ ?_ ?_; (focus (go_simp; done)); rotate_left; (focus (go_simp; rfl)))
  refine (rleft qq lz ez d0 (CC.out.Q.mono J0.out)).mono ?_
  rintro z wz ⟨rfl, rfl⟩
  refine ⟨_, rfl, J0.out, ?_⟩
  go_simp
  (refine h_read 15 rfl (by kernel_rfl) (by kernel_rfl) ?_ ?_ ?_ ?_; (focus (go_simp; done)); rotate_left; (focus (intro v hv; go_simp; rfl)); go_simp)
  (refine h_read 16 rfl (by kernel_rfl) (by kernel_rfl) (h_free rfl) ?_ ?_ ?_; rotate_left; (focus (intro v hv; go_simp; rfl)); go_simp)
  (refine h_read 17 rfl (by kernel_rfl) (by kernel_rfl) (h_free rfl) ?_ ?_ ?_; rotate_left; (focus (intro v hv; go_simp; rfl)); go_simp)
  (refine h_read 18 rfl (by kernel_rfl) (by kernel_rfl) ?_ ?_ ?_ ?_; (focus (go_simp; done)); rotate_left; (focus (intro v hv; refine run_cells 23 (.tmp 2) ?_ w.heap.size 0 ?_ (chC c) _ (fun j' u' hj => by rw [hv.cell (p := ⟨w.heap.size, 0 + j', none⟩) CC.out.rA.lt, Nat.zero_add, CC.out.rA.cellV]; exact hj) Tryd.underlying23 rfl ch_size; (focus rfl); go_simp)); rw [HXC.out]; go_simp)
  (refine h_read 20 rfl (by kernel_rfl) (by kernel_rfl) ?_ ?_ ?_ ?_; (focus (go_simp; done)); rotate_left; (focus (intro v hv; refine run_cells 23 (.tmp 2) ?_ w.heap.size 0 ?_ (chC c) _ (fun j' u' hj => by rw [hv.cell (p := ⟨w.heap.size, 0 + j', none⟩) CC.out.rA.lt, Nat.zero_add, CC.out.rA.cellV]; exact hj) Tryd.underlying23 rfl ch_size; (focus rfl); go_simp)); rw [HXC.out]; go_simp)
  (refine h_call 19 rfl (by kernel_rfl) ?_ 25 ?_ ?_ ?_; (focus (go_simp; done)); rotate_left; (focus (go_simp; rfl)))
  refine (HC1.out d0).mono ?_
  rintro z d1 ⟨rfl, hb⟩
  have J1 := Lib.hid (J0.out.trans (hb.mono J0.out.size))
  clear hb
  refine ⟨_, rfl, J1.out, ?_⟩
  go_simp
  (refine h_call 21 rfl (by kernel_rfl) ?_ 26 ?_ ?_ ?_; (focus (go_simp; done)); rotate_left; (focus (go_simp; rfl)))
  refine (HC2.out d1).mono ?_
  rintro z d2 ⟨rfl, hb⟩
  have J2 := Lib.hid (J1.out.trans (hb.mono J1.out.size))
  clear hb
  refine ⟨_, rfl, J2.out, ?_⟩
  go_simp
  (refine h_read 22 rfl (by kernel_rfl) (by kernel_rfl) ?_ ?_ ?_ ?_; (focus (go_simp; done)); rotate_left; (focus (intro v hv; go_simp; rfl)); go_simp)
  (refine h_read 23 rfl (by kernel_rfl) (by kernel_rfl) (h_free rfl) ?_ ?_ ?_; rotate_left; (focus (intro v hv; go_simp; rfl)); go_simp)
  refine h_done (by kernel_rfl) ?_
  have RAF := Lib.hid (CC.out.rA.below J2.out CC.out.rA.lt)
  have BF := Lib.hid (CC.out.B.trans (J2.out.mono CC.out.B.size))
  clear J0 J1 J2 q1
  go_wp2_with (first
    | ((with_reducible refine load_row (o := ⟨some 52, _, _, _, _, _⟩) rfl _ _ rfl w.heap.size ?_ _ (chC c) _ RAF.out Tryd.underlying23 rfl ?_ ?_); (focus go_simp); (focus (exact LZS.out)))
    | (go_at_call 27; (with_reducible refine (HP3.out d2).mono ?_); rintro x f1 ⟨v1, rfl, hf, hb⟩; obtain ⟨tl, htl⟩ : ∃ k, T.length = k := ⟨_, rfl⟩; obtain ⟨y1, e1, hv1, hr1⟩ := hf.form' tl htl; subst hv1; have K1 := Lib.hid hr1; have TB := Lib.hid (show tl ≤ 100000000 by rw [← htl]; exact HTL.out); have RAG := Lib.hid (RAF.out.below hb RAF.out.lt); have BG := Lib.hid (BF.out.trans (hb.mono BF.out.size)); clear hf hr1 hb htl)
    | (go_at_call 17; (with_reducible refine (popen y1 tl e1 T f1 K1.out (by have := TB.out; omega)).mono ?_); rintro x f2 ⟨pp, rfl, hp1, hp2, hb⟩; have PP := Lib.hid hp2; have PG := Lib.hid hp1; have RAH := Lib.hid (RAG.out.below hb RAG.out.lt); have BH := Lib.hid (BG.out.trans (hb.mono BG.out.size)); clear hp1 hp2 hb))
  refine region_h (fun v => Row v w.heap.size 23 (chC c)) (by kernel_rfl) (by kernel_rfl) (RAH.out.drewN 1) ?_
  have J0 : Hid (Below f2.heap.size f2 f2.drew) := Lib.hid (Below.refl _ _).drew
  obtain ⟨d0, hd0⟩ : ∃ wd, f2.drew = wd := ⟨_, rfl⟩
  rw [hd0] at J0 ⊢
  clear hd0
  have RA0 := Lib.hid (RAH.out.below J0.out RAH.out.lt)
  have PP0 := Lib.hid (PP.out.mono J0.out)
  have B0 := Lib.hid (BH.out.trans (J0.out.mono BH.out.size))
  have PGN := Lib.hid (show w.heap.size ≠ pp from Nat.ne_of_lt (Nat.lt_of_lt_of_le RAG.out.lt PG.out))
  have PGW := Lib.hid (show w.heap.size ≤ pp from Nat.le_trans BG.out.size PG.out)
  have q2 := HQ2.out
  cases ok
  · clear HRD
    (refine h_read 0 rfl (by kernel_rfl) (by kernel_rfl) (h_free rfl) ?_ ?_ ?_; rotate_left; (focus (intro v hv; go_simp; rfl)); go_simp)
    (refine h_read 1 rfl (by kernel_rfl) (by kernel_rfl) (h_free rfl) ?_ ?_ ?_; rotate_left; (focus (intro v hv; refine run_cells 23 (.tmp 2) ?_ w.heap.size 0 ?_ (chC c) _ (fun j' u' hj => by rw [Nat.zero_add, hv.cellV]; exact hj) Tryd.underlying23 rfl ch_size; (focus rfl); go_simp)); rw [HXC.out]; go_simp)
    (refine h_read 3 rfl (by kernel_rfl) (by kernel_rfl) (h_free rfl) ?_ ?_ ?_; rotate_left; (focus (intro v hv; go_simp; rfl)); go_simp)
    (refine h_read 4 rfl (by kernel_rfl) (by kernel_rfl) (h_free rfl) ?_ ?_ ?_; rotate_left; (focus (intro v hv; refine run_cells 23 (.tmp 2) ?_ w.heap.size 0 ?_ (chC c) _ (fun j' u' hj => by rw [Nat.zero_add, hv.cellV]; exact hj) Tryd.underlying23 rfl ch_size; (focus rfl); go_simp)); rw [HXC.out]; go_simp)
    (refine h_call 2 rfl (by kernel_rfl) (h_free rfl) 27 ?_ ?_ ?_; rotate_left; (focus (go_simp; rfl)))
    refine (HP1.out d0 B0.out).mono ?_
    rintro z u1 ⟨v2, rfl, hf, hb⟩
    have RA1 := Lib.hid (RA0.out.below hb RA0.out.lt)
    have PP1 := Lib.hid (PP0.out.mono hb)
    have B1x := Lib.hid (B0.out.trans (hb.mono B0.out.size))
    have F1 := Lib.hid hf
    clear hf
    clear hb
    refine ⟨_, rfl, RA1.out, ?_⟩
    go_simp
    (refine h_call 5 rfl (by kernel_rfl) (h_free rfl) 29 ?_ ?_ ?_; rotate_left; (focus (go_simp; rfl)))
    refine (HP2.out u1 B1x.out).mono ?_
    rintro z u2 ⟨v3, rfl, hf, hb⟩
    have RA2 := Lib.hid (RA1.out.below hb RA1.out.lt)
    have PP2 := Lib.hid (PP1.out.mono hb)
    have B2 := Lib.hid (B1x.out.trans (hb.mono B1x.out.size))
    obtain ⟨rl, hrl⟩ : ∃ rl, R.length = rl := ⟨_, rfl⟩
    obtain ⟨y3, e3, hv3, hr3⟩ := hf.form' rl hrl
    obtain ⟨y2, e2, hv2, hr2⟩ := (F1.out.kept hb).form' rl hrl
    subst hv2 hv3
    have K2 := Lib.hid hr2
    have K3 := Lib.hid hr3
    clear hf hr2 hr3 hrl
    clear hb
    refine ⟨_, rfl, RA2.out, ?_⟩
    go_simp
    (refine h_call 6 rfl (by kernel_rfl) (h_free rfl) 28 ?_ ?_ ?_; rotate_left; (focus (go_simp; rfl)))
    refine (sequal y2 y3 rl rl e2 e3 R R u2 K2.out K3.out).mono ?_
    rw [decide_eq_true rfl]
    rintro z u3 ⟨rfl, hq⟩
    have hb := hq.below u2.heap.size
    have RA3 := Lib.hid (RA2.out.below hb RA2.out.lt)
    have PP3 := Lib.hid (PP2.out.mono hb)
    have B3 := Lib.hid (B2.out.trans (hb.mono B2.out.size))
    clear hq hb
    refine ⟨_, rfl, RA3.out, ?_⟩
    go_simp
    (refine h_read 7 rfl (by kernel_rfl) (by kernel_rfl) (h_free rfl) ?_ ?_ ?_; rotate_left; (focus (intro v hv; go_simp; rfl)); go_simp)
    (refine h_read 8 rfl (by kernel_rfl) (by kernel_rfl) ?_ ?_ ?_ ?_; (focus (go_simp; done)); rotate_left; (focus (intro v hv; refine run_cells 23 (.tmp 2) ?_ w.heap.size 0 ?_ (chC c) _ (fun j' u' hj => by rw [Nat.zero_add, hv.cellV]; exact hj) Tryd.underlying23 rfl ch_size; (focus rfl); go_simp)); rw [HXC.out]; go_simp)
    (refine h_call 9 rfl (by kernel_rfl) ?_ 25 ?_ ?_ ?_; (focus (go_simp; done)); rotate_left; (focus (go_simp; rfl)))
    refine (HC1.out u3).mono ?_
    rintro z u4 ⟨rfl, hb⟩
    have RA4 := Lib.hid (RA3.out.below hb RA3.out.lt)
    have PP4 := Lib.hid (PP3.out.mono hb)
    have B4 := Lib.hid (B3.out.trans (hb.mono B3.out.size))
    clear hb
    refine ⟨_, rfl, RA4.out, ?_⟩
    go_simp
    (refine h_read 10 rfl (by kernel_rfl) (by kernel_rfl) ?_ ?_ ?_ ?_; (focus (go_simp; done)); rotate_left; (focus (intro v hv; go_simp; rfl)); go_simp)
    (refine h_read 11 rfl (by kernel_rfl) (by kernel_rfl) ?_ ?_ ?_ ?_; (focus (go_simp; done)); rotate_left; (focus (intro v hv; go_simp; rfl)); go_simp)
    (refine h_skip 12 rfl (by kernel_rfl) (by kernel_rfl) ?_ ?_; (focus (go_simp; first | done | (intro h; cases h) | simp)); go_simp)
    (refine h_skip 13 rfl (by kernel_rfl) (by kernel_rfl) ?_ ?_; (focus (go_simp; first | done | (intro h; cases h) | simp)); go_simp)
    (refine h_skip 14 rfl (by kernel_rfl) (by kernel_rfl) ?_ ?_; (focus (go_simp; first | done | (intro h; cases h) | simp)); go_simp)
    (refine h_skip 15 rfl (by kernel_rfl) (by kernel_rfl) ?_ ?_; (focus (go_simp; first | done | (intro h; cases h) | simp)); go_simp)
    (refine h_skip 16 rfl (by kernel_rfl) (by kernel_rfl) ?_ ?_; (focus (go_simp; first | done | (intro h; cases h) | simp)); go_simp)
    (refine h_skip 17 rfl (by kernel_rfl) (by kernel_rfl) ?_ ?_; (focus (go_simp; first | done | (intro h; cases h) | simp)); go_simp)
    (refine h_skip 18 rfl (by kernel_rfl) (by kernel_rfl) ?_ ?_; (focus (go_simp; first | done | (intro h; cases h) | simp)); go_simp)
    (refine h_skip 19 rfl (by kernel_rfl) (by kernel_rfl) ?_ ?_; (focus (go_simp; first | done | (intro h; cases h) | simp)); go_simp)
    (refine h_skip 20 rfl (by kernel_rfl) (by kernel_rfl) ?_ ?_; (focus (go_simp; first | done | (intro h; cases h) | simp)); go_simp)
    (refine h_read 21 rfl (by kernel_rfl) (by kernel_rfl) ?_ ?_ ?_ ?_; (focus (go_simp; done)); rotate_left; (focus (intro v hv; go_simp; rfl)); go_simp)
    (refine h_read 22 rfl (by kernel_rfl) (by kernel_rfl) (h_free rfl) ?_ ?_ ?_; rotate_left; (focus (intro v hv; go_simp; rfl)); go_simp)
    (refine h_read 23 rfl (by kernel_rfl) (by kernel_rfl) (h_free rfl) ?_ ?_ ?_; rotate_left; (focus (intro v hv; go_simp; rfl)); go_simp)
    (refine h_call 24 rfl (by kernel_rfl) ?_ 7 ?_ ?_ ?_; (focus (go_simp; done)); rotate_left; (focus (go_simp; rfl)))
    refine (HA.out u4 B4.out).mono ?_
    rintro z d9 ⟨rfl, hb⟩
    have RA9 := Lib.hid (RA4.out.below hb RA4.out.lt)
    have B9 := Lib.hid (B4.out.trans (hb.mono B4.out.size))
    clear hb
    refine ⟨_, rfl, RA9.out, ?_⟩
    go_simp
    (refine h_read 25 rfl (by kernel_rfl) (by kernel_rfl) (h_free rfl) ?_ ?_ ?_; rotate_left; (focus (intro v hv; go_simp; rfl)); go_simp)
    (refine h_read 26 rfl (by kernel_rfl) (by kernel_rfl) (h_free rfl) ?_ ?_ ?_; rotate_left; (focus (intro v hv; go_simp; rfl)); go_simp)
    refine h_done (by kernel_rfl) ?_
    go_wp2_with fail
    go_ret
    exact ⟨by first | rfl | exact one (vbool (by simp)), B9.out⟩
  · (refine h_read 0 rfl (by kernel_rfl) (by kernel_rfl) (h_free rfl) ?_ ?_ ?_; rotate_left; (focus (intro v hv; go_simp; rfl)); go_simp)
    (refine h_read 1 rfl (by kernel_rfl) (by kernel_rfl) (h_free rfl) ?_ ?_ ?_; rotate_left; (focus (intro v hv; refine run_cells 23 (.tmp 2) ?_ w.heap.size 0 ?_ (chC c) _ (fun j' u' hj => by rw [Nat.zero_add, hv.cellV]; exact hj) Tryd.underlying23 rfl ch_size; (focus rfl); go_simp)); rw [HXC.out]; go_simp)
    (refine h_read 3 rfl (by kernel_rfl) (by kernel_rfl) (h_free rfl) ?_ ?_ ?_; rotate_left; (focus (intro v hv; go_simp; rfl)); go_simp)
    (refine h_read 4 rfl (by kernel_rfl) (by kernel_rfl) (h_free rfl) ?_ ?_ ?_; rotate_left; (focus (intro v hv; refine run_cells 23 (.tmp 2) ?_ w.heap.size 0 ?_ (chC c) _ (fun j' u' hj => by rw [Nat.zero_add, hv.cellV]; exact hj) Tryd.underlying23 rfl ch_size; (focus rfl); go_simp)); rw [HXC.out]; go_simp)
    (refine h_call 2 rfl (by kernel_rfl) (h_free rfl) 27 ?_ ?_ ?_; rotate_left; (focus (go_simp; rfl)))
    refine (HP1.out d0 B0.out).mono ?_
    rintro z u1 ⟨v2, rfl, hf, hb⟩
    have RA1 := Lib.hid (RA0.out.below hb RA0.out.lt)
    have PP1 := Lib.hid (PP0.out.mono hb)
    have B1x := Lib.hid (B0.out.trans (hb.mono B0.out.size))
    have F1 := Lib.hid hf
    clear hf
    clear hb
    refine ⟨_, rfl, RA1.out, ?_⟩
    go_simp
    (refine h_call 5 rfl (by kernel_rfl) (h_free rfl) 29 ?_ ?_ ?_; rotate_left; (focus (go_simp; rfl)))
    refine (HP2.out u1 B1x.out).mono ?_
    rintro z u2 ⟨v3, rfl, hf, hb⟩
    have RA2 := Lib.hid (RA1.out.below hb RA1.out.lt)
    have PP2 := Lib.hid (PP1.out.mono hb)
    have B2 := Lib.hid (B1x.out.trans (hb.mono B1x.out.size))
    obtain ⟨rl, hrl⟩ : ∃ rl, R.length = rl := ⟨_, rfl⟩
    obtain ⟨y3, e3, hv3, hr3⟩ := hf.form' rl hrl
    obtain ⟨y2, e2, hv2, hr2⟩ := (F1.out.kept hb).form' rl hrl
    subst hv2 hv3
    have K2 := Lib.hid hr2
    have K3 := Lib.hid hr3
    clear hf hr2 hr3 hrl
    clear hb
    refine ⟨_, rfl, RA2.out, ?_⟩
    go_simp
    (refine h_call 6 rfl (by kernel_rfl) (h_free rfl) 28 ?_ ?_ ?_; rotate_left; (focus (go_simp; rfl)))
    refine (sequal y2 y3 rl rl e2 e3 R R u2 K2.out K3.out).mono ?_
    rw [decide_eq_true rfl]
    rintro z u3 ⟨rfl, hq⟩
    have hb := hq.below u2.heap.size
    have RA3 := Lib.hid (RA2.out.below hb RA2.out.lt)
    have PP3 := Lib.hid (PP2.out.mono hb)
    have B3 := Lib.hid (B2.out.trans (hb.mono B2.out.size))
    clear hq hb
    refine ⟨_, rfl, RA3.out, ?_⟩
    go_simp
    (refine h_read 7 rfl (by kernel_rfl) (by kernel_rfl) (h_free rfl) ?_ ?_ ?_; rotate_left; (focus (intro v hv; go_simp; rfl)); go_simp)
    (refine h_read 8 rfl (by kernel_rfl) (by kernel_rfl) ?_ ?_ ?_ ?_; (focus (go_simp; done)); rotate_left; (focus (intro v hv; refine run_cells 23 (.tmp 2) ?_ w.heap.size 0 ?_ (chC c) _ (fun j' u' hj => by rw [Nat.zero_add, hv.cellV]; exact hj) Tryd.underlying23 rfl ch_size; (focus rfl); go_simp)); rw [HXC.out]; go_simp)
    (refine h_call 9 rfl (by kernel_rfl) ?_ 25 ?_ ?_ ?_; (focus (go_simp; done)); rotate_left; (focus (go_simp; rfl)))
    refine (HC1.out u3).mono ?_
    rintro z u4 ⟨rfl, hb⟩
    have RA4 := Lib.hid (RA3.out.below hb RA3.out.lt)
    have PP4 := Lib.hid (PP3.out.mono hb)
    have B4 := Lib.hid (B3.out.trans (hb.mono B3.out.size))
    clear hb
    refine ⟨_, rfl, RA4.out, ?_⟩
    go_simp
    (refine h_read 10 rfl (by kernel_rfl) (by kernel_rfl) ?_ ?_ ?_ ?_; (focus (go_simp; done)); rotate_left; (focus (intro v hv; go_simp; rfl)); go_simp)
    (refine h_read 11 rfl (by kernel_rfl) (by kernel_rfl) ?_ ?_ ?_ ?_; (focus (go_simp; done)); rotate_left; (focus (intro v hv; go_simp; rfl)); go_simp)
    (refine h_read 12 rfl (by kernel_rfl) (by kernel_rfl) ?_ ?_ ?_ ?_; (focus (go_simp; done)); rotate_left; (focus (intro v hv; go_simp; rfl)); go_simp)
    (refine h_read 14 rfl (by kernel_rfl) (by kernel_rfl) ?_ ?_ ?_ ?_; (focus (go_simp; done)); rotate_left; (focus (intro v hv; refine run_cells 23 (.tmp 2) ?_ w.heap.size 0 ?_ (chC c) _ (fun j' u' hj => by rw [Nat.zero_add, hv.cellV]; exact hj) Tryd.underlying23 rfl ch_size; (focus rfl); go_simp)); rw [HXC.out]; go_simp)
    (refine h_call 13 rfl (by kernel_rfl) ?_ 19 ?_ ?_ ?_; (focus (go_simp; done)); rotate_left; (focus (go_simp; rfl)))
    refine ((HRD rfl).out pp u4 PP4.out).mono ?_
    rintro z u5 ⟨rfl, hP, hg⟩
    have RA5' := Lib.hid (RA4.out.gw hg PGN.out)
    have PP5 := Lib.hid hP
    have B5' := Lib.hid (B4.out.trans (hg.below PGW.out B4.out.size))
    clear hP hg
    refine ⟨_, rfl, RA5'.out, ?_⟩
    go_simp
    (refine h_read 15 rfl (by kernel_rfl) (by kernel_rfl) ?_ ?_ ?_ ?_; (focus (go_simp; done)); rotate_left; (focus (intro v hv; go_simp; rfl)); go_simp)
    (refine h_read 16 rfl (by kernel_rfl) (by kernel_rfl) ?_ ?_ ?_ ?_; (focus (go_simp; done)); rotate_left; (focus (intro v hv; go_simp; rfl)); go_simp)
    (refine h_read 17 rfl (by kernel_rfl) (by kernel_rfl) ?_ ?_ ?_ ?_; (focus (go_simp; done)); rotate_left; (focus (intro v hv; go_simp; rfl)); go_simp)
    (refine h_call 18 rfl (by kernel_rfl) ?_ 30 ?_ ?_ ?_; (focus (go_simp; done)); rotate_left; (focus (go_simp; rfl)))
    refine (pend pp [] 0 u5 PP5.out).mono ?_
    rw [show endV [] 0 = 0 from rfl]
    rintro z wz ⟨rfl, rfl⟩
    refine ⟨_, rfl, RA5'.out, ?_⟩
    go_simp
    (refine h_read 19 rfl (by kernel_rfl) (by kernel_rfl) ?_ ?_ ?_ ?_; (focus (go_simp; done)); rotate_left; (focus (intro v hv; go_simp; rfl)); go_simp)
    (refine h_read 20 rfl (by kernel_rfl) (by kernel_rfl) ?_ ?_ ?_ ?_; (focus (go_simp; done)); rotate_left; (focus (intro v hv; go_simp; rfl)); go_simp)
    (refine h_read 21 rfl (by kernel_rfl) (by kernel_rfl) ?_ ?_ ?_ ?_; (focus (go_simp; done)); rotate_left; (focus (intro v hv; go_simp; rfl)); go_simp)
    (refine h_read 22 rfl (by kernel_rfl) (by kernel_rfl) (h_free rfl) ?_ ?_ ?_; rotate_left; (focus (intro v hv; go_simp; rfl)); go_simp)
    (refine h_read 23 rfl (by kernel_rfl) (by kernel_rfl) (h_free rfl) ?_ ?_ ?_; rotate_left; (focus (intro v hv; go_simp; rfl)); go_simp)
    (refine h_call 24 rfl (by kernel_rfl) ?_ 7 ?_ ?_ ?_; (focus (go_simp; done)); rotate_left; (focus (go_simp; rfl)))
    refine (HA.out u5 B5'.out).mono ?_
    rintro z d9 ⟨rfl, hb⟩
    have RA9 := Lib.hid (RA5'.out.below hb RA5'.out.lt)
    have B9 := Lib.hid (B5'.out.trans (hb.mono B5'.out.size))
    clear hb
    refine ⟨_, rfl, RA9.out, ?_⟩
    go_simp
    (refine h_read 25 rfl (by kernel_rfl) (by kernel_rfl) (h_free rfl) ?_ ?_ ?_; rotate_left; (focus (intro v hv; go_simp; rfl)); go_simp)
    (refine h_read 26 rfl (by kernel_rfl) (by kernel_rfl) (h_free rfl) ?_ ?_ ?_; rotate_left; (focus (intro v hv; go_simp; rfl)); go_simp)
    refine h_done (by kernel_rfl) ?_
    go_wp2_with fail
    go_ret
    exact ⟨by first | rfl | exact one (vbool (by simp)), B9.out⟩
end Go.Proofs.YtnkpcolkhmphmaaDoor.W
