import Derived.Test.YtkfhppbmnjmnoaaGreatDoorCzE
/- LAYER 28 (chunk): the law's do: Sweep; all cases. -/
set_option linter.unusedSimpArgs false
set_option linter.unusedVariables false
namespace Go.Proofs.YtkfhppbmnjmnoaaGreatDoor.W
open Go Go.ChangeShapes Go.WideShapes Go.ChangeAt Go.RowKit
open Go.Proofs.YtkfhppbmnjmnoaaGreatDoor.P (shaL shaL_len)

set_option maxRecDepth 100000 in
set_option maxHeartbeats 32000000 in
theorem do28_9 (d : DoK) (room : Int) (L : List Fi) (wI w : World) (base p q T0 : Nat) (S T : Nat → Prop) (h : P2 w base room p q L L S T) (hs : StOk T0 room L) (hT : T0 ≤ 890) (h0 : 0 ≤ room) (hK : Ks w) (hbI : wI.heap.size = base) (hbw : Below base wI w) (hp : 0 < base) (hd : d.fit wI) (hfw : d.few = true) (hop : d.op ≠ 0 ∧ d.op ≠ 1 ∧ d.op ≠ 2 ∧ d.op ≠ 3 ∧ d.op ≠ 4 ∧ d.op ≠ 5 ∧ d.op ≠ 6 ∧ d.op ≠ 7 ∧ d.op ≠ 8) :
    Calls Tryz.prog 10 #[.pointer (some ⟨p, 0, none⟩), .pointer (some ⟨q, 0, none⟩), .agg d.cells.toArray] w fun e w' => e = .returned (.bool true) ∧ (∃ S' T', P2 w' base room p q (stepK room L d) (stepK room L d) S' T') ∧ Below base w w' := by
  have HS := Lib.hid hs
  have HP := Lib.hid h
  have HK := Lib.hid hK
  have HBI := Lib.hid hbI
  have HBW := Lib.hid hbw
  obtain ⟨a, n, c, Y, hY, hx⟩ := h.x
  have HXL := Lib.hid hx
  have hnL : L.length = n := by rw [← hY, List.length_map]; exact hx.ls.hlen
  have HNL := Lib.hid hnL
  have hn5 : n ≤ 524288 := by have := hs.len; omega
  have HYL := Lib.hid hY
  have QA := Lib.hid hx.rp.k2.1
  have NQ := Lib.hid (show q < w.heap.size from hx.rp.lt)
  have hszb : base ≤ w.heap.size := by rw [← hbI]; rw [← hbI] at hbw; exact hbw.size
  obtain ⟨sm, hsm⟩ : ∃ sm, sumK L d.n d.at' d.s = sm := ⟨_, rfl⟩
  have HSM := Lib.hid hsm
  have hsz : sm.size ≤ maxLen := by
    rw [← hsm]
    unfold sumK
    split
    · split
      · rename_i f hf
        have := (hs.ok f (List.mem_of_getElem? hf)).s
        unfold maxLen; omega
      · exact hd.s
    · exact hd.s
  have HSZ := Lib.hid hsz
  obtain ⟨L2, hL2⟩ : ∃ L2, stepK room L d = L2 := ⟨_, rfl⟩
  rw [hL2]
  have hfew := hfw
  unfold DoK.few at hfew
  simp only [Bool.and_eq_true, decide_eq_true_eq] at hfew
  obtain ⟨f1, f2, f3, f4, f5⟩ := hfew
  have NS := Lib.hid (fun k (hk : S k) => (show k < w.heap.size from h.slt k hk))
  have NT := Lib.hid (fun k (hk : T k) => (show k < w.heap.size from h.tlt k hk))
  obtain ⟨u1, u2⟩ := hd.n64
  obtain ⟨u3, u4⟩ := hd.a64
  clear h hs hK hbw hx hY hnL hsm hsz hfw hbI
  obtain ⟨op, nn0, at0, ba, bn, bc, b, s, ka, kn, kc, ks, na, nn, nc, ns, la, ln, lc, ls⟩ := d
  dsimp only at f1 f2 f3 f4 f5 u1 u2 u3 u4 HSM hL2 hop
  have RB := Lib.hid (show Rd wI ba bn bc b from hd.rb)
  have RK := Lib.hid (show Ls intE wI ka kn kc ks from hd.rk)
  have RN := Lib.hid (show Ls strE wI na nn nc ns from hd.rn)
  have RL := Lib.hid (show Ls intE wI la ln lc ls from hd.rl)
  have HN64 := Lib.hid (show SI64 nn0 from hd.n64)
  clear hd
  obtain ⟨h0', h1', h2', h3', h4', h5', h6', h7', h8'⟩ := hop
  have o0 : (op == 0) = false := beq_eq_false_iff_ne.2 h0'
  have o1 : (op == 1) = false := beq_eq_false_iff_ne.2 h1'
  have o2 : (op == 2) = false := beq_eq_false_iff_ne.2 h2'
  have o3 : (op == 3) = false := beq_eq_false_iff_ne.2 h3'
  have o4 : (op == 4) = false := beq_eq_false_iff_ne.2 h4'
  have o5 : (op == 5) = false := beq_eq_false_iff_ne.2 h5'
  have o6 : (op == 6) = false := beq_eq_false_iff_ne.2 h6'
  have o7 : (op == 7) = false := beq_eq_false_iff_ne.2 h7'
  have o8 : (op == 8) = false := beq_eq_false_iff_ne.2 h8'
  have HL2 := Lib.hid (show (L.filter fun f => !goesC nn0 (if at0 % 2 = 0 then ns ++ [sm] else ns) ls f) = L2 by rw [← hL2]; unfold stepK; simp only [h0', h1', h2', h3', h4', h5', h6', h7', h8', if_false, or_self]; rw [HSM.out])
  clear hL2
  clear h0' h1' h2' h3' h4' h5' h6' h7' h8'
  go_enter Tryz.func10, Tryz.ntmps10
  go_upto_region 2 with (first
    | ((with_reducible refine box_row (o := ⟨some 5, _, _, _, _, _⟩) rfl _ _ rfl (doC op nn0 at0 ba bn bc s ka kn kc na nn nc la ln lc) rfl ?_); intro w1 hr hb hz; have R1 := Lib.hid hr; have B1 := Lib.hid hb; have c4 := hr.d8.2.2.2.2.1; clear hr hb hz))
  obtain ⟨EV, hEV⟩ : ∃ EV : Bool, (decide (0 < n) && decide (nn0.tmod 2 = 0)) = EV := ⟨_, rfl⟩
  have HEV := Lib.hid hEV
  clear hEV
  go_cut [34] from 23 to 33 (fun v wx => v = .bool EV ∧ wx = w1)
  case first =>
    clear c4
    obtain ⟨c0, c1, c2, c3, c4, c5, c6, c7⟩ := R1.out.d8
    have cq : w1.cell? ⟨q, 0, none⟩ = some (.slice a n c) := (B1.out.cell (p := ⟨q, 0, none⟩) NQ.out).trans QA.out
    by_cases hn0 : 0 < n
    · have g0 : (0 : Int) < (n : Int) := by omega
      by_cases ht : nn0.tmod 2 = 0
      · have ge : (nn0.tmod 2 == 0) = true := by rw [ht]; rfl
        have HX := Lib.hid (show EV = true by rw [← HEV.out]; simp [hn0, ht])
        clear c0 c2 c3 c4 c5 c6 c7
        go_wp2_with fail
        go_meet
        case rel => exact ⟨by rw [HX.out], rfl⟩
      · have ge : (nn0.tmod 2 == 0) = false := by rw [beq_eq_false_iff_ne]; exact ht
        have HX := Lib.hid (show EV = false by rw [← HEV.out]; simp [ht])
        clear c0 c2 c3 c4 c5 c6 c7 ht
        go_wp2_with fail
        go_meet
        case rel => exact ⟨by rw [HX.out], rfl⟩
    · have g0 : ¬ (0 : Int) < (n : Int) := by omega
      have HX := Lib.hid (show EV = false by rw [← HEV.out]; simp [hn0])
      clear c0 c1 c2 c3 c4 c5 c6 c7
      go_wp2_with fail
      go_meet
      case rel => exact ⟨by rw [HX.out], rfl⟩
  case rest =>
  obtain ⟨rfl, rfl⟩ := hcut
  obtain ⟨w1, rfl⟩ : ∃ x : World, x = wc := ⟨_, rfl⟩
  go_upto_if 34 with fail
  go_cut [7] from 35 to 52 (fun v wx => v = .string sm ∧ Hid (Below w1.heap.size w1 wx))
  case first =>
    clear c4
    cases EV
    · have HE := Lib.hid (show s = sm by
        have h1 := HEV.out
        rw [← HSM.out]; unfold sumK
        rw [if_neg]
        rintro ⟨e1, e2⟩
        rw [HNL.out] at e1
        have e3 : nn0.tmod 2 = 0 := Classical.byContradiction fun hne => tmod2' hne e2
        simp [e1, e3] at h1)
      go_wp2_with fail
      go_meet
      case rel => exact ⟨by rw [HE.out], Lib.hid (Below.refl _ _)⟩
    · have hev := HEV.out
      simp only [Bool.and_eq_true, decide_eq_true_eq] at hev
      obtain ⟨hn0, ht⟩ := hev
      obtain ⟨c0, c1, c2, c3, c4, c5, c6, c7⟩ := R1.out.d8
      have cq : w1.cell? ⟨q, 0, none⟩ = some (.slice a n c) := (B1.out.cell (p := ⟨q, 0, none⟩) NQ.out).trans QA.out
      have g0 : (0 : Int) < (n : Int) := by omega
      have hUp := wrap_u64_bd at0
      obtain ⟨U, hU⟩ : ∃ U, IntKind.u64.wrap at0 = U := ⟨_, rfl⟩
      rw [hU] at hUp
      obtain ⟨k, hk⟩ : ∃ k : Nat, U % (n : Int) = k := ⟨(U % (n : Int)).toNat, by have := Int.emod_nonneg U (show (n : Int) ≠ 0 by omega); omega⟩
      have hkn : k < n := by have := Int.emod_lt_of_pos U g0; omega
      obtain ⟨b0, off, y, rfl, hy, hcell, -⟩ := HXL.out.ls.at fiOk (Below.refl _ _) k hkn
      have HSY := Lib.hid (show y.f.s = sm by
        rw [← HSM.out]
        unfold sumK
        rw [HNL.out, if_pos ⟨hn0, tmod2 ht⟩, hU, hk, show (k : Int).toNat = k from rfl, ← HYL.out, List.getElem?_map, hy]
        rfl)
      have cy0 := hcell 0 _ rfl
      have LB := Lib.hid (show b0 < w.heap.size from lt_of_cell cy0)
      have CY := Lib.hid (show w.cell? ⟨b0, off + k * 4, none⟩ = some (.string y.f.s) from cy0)
      rw [HSY.out] at CY
      have hwn : IntKind.u64.wrap (n : Int) = (n : Int) := by rw [IntKind.wrap_u64]; omega
      have hrm : U.tmod (n : Int) = (k : Int) := by rw [Int.tmod_eq_emod_of_nonneg hUp.1]; exact hk
      have hwk : IntKind.i64.wrap (k : Int) = (k : Int) := by rw [IntKind.wrap_i64]; omega
      have hwk2 : IntKind.u64.wrap (k : Int) = (k : Int) := by rw [IntKind.wrap_u64]; omega
      have g1 : (0 : Int) ≤ (k : Int) := by omega
      have g2 : (k : Int) < (n : Int) := by omega
      have gn0 : ((n : Int) == 0) = false := by rw [beq_eq_false_iff_ne]; omega
      have cy1 := (B1.out.cell (p := ⟨b0, off + k * 4, none⟩) LB.out).trans CY.out
      clear c0 c1 c3 c4 c5 c6 c7 hy hcell cy0 hk hUp ht
      have gnn : ¬ n = 0 := by omega
      have C2 := Lib.hid c2
      have Q1 := Lib.hid cq
      have CY1 := Lib.hid cy1
      have NQ1 := Lib.hid (show q < w1.heap.size from Nat.lt_of_lt_of_le NQ.out B1.out.size)
      have LB1 := Lib.hid (show b0 < w1.heap.size from Nat.lt_of_lt_of_le LB.out B1.out.size)
      clear c2 cq cy1
      go_wp2_with fail
      refine region_h (fun v => Below w1.heap.size w1 v) (by kernel_rfl) (by kernel_rfl) (Below.refl _ _).drew ?_
      obtain ⟨d0, hd0⟩ : ∃ wd, w1.drew = wd := ⟨_, rfl⟩
      have J0 : Hid (Below w1.heap.size w1 d0) := Lib.hid (by rw [← hd0]; exact (Below.refl _ _).drew)
      rw [hd0]
      clear hd0
      (refine h_read 0 rfl (by kernel_rfl) (by kernel_rfl) (h_free rfl) ?_ ?_ ?_; rotate_left; (focus (intro v hv; go_simp; rfl)); go_simp)
      (refine h_read 1 rfl (by kernel_rfl) (by kernel_rfl) (h_free rfl) ?_ ?_ ?_; rotate_left; (focus (intro v hv; go_simp; rfl)); go_simp)
      (refine h_read 2 rfl (by kernel_rfl) (by kernel_rfl) (h_free rfl) ?_ ?_ ?_; rotate_left; (focus (intro v hv; go_simp; rfl)); go_simp)
      (refine h_read 3 rfl (by kernel_rfl) (by kernel_rfl) (h_free rfl) ?_ ?_ ?_; rotate_left; (focus (intro v hv; have q0 := (hv.cell (p := ⟨q, 0, none⟩) NQ1.out).trans Q1.out; have e2 := (hv.cell (p := ⟨w.heap.size, 2, none⟩) R1.out.lt).trans C2.out; have y0 := (hv.cell (p := ⟨b0, off + k * 4, none⟩) LB1.out).trans CY1.out; go_simp; rfl)); go_simp)
      (refine h_read 4 rfl (by kernel_rfl) (by kernel_rfl) (h_free rfl) ?_ ?_ ?_; rotate_left; (focus (intro v hv; go_simp; rfl)); go_simp)
      (refine h_read 5 rfl (by kernel_rfl) (by kernel_rfl) (h_free rfl) ?_ ?_ ?_; rotate_left; (focus (intro v hv; have q0 := (hv.cell (p := ⟨q, 0, none⟩) NQ1.out).trans Q1.out; have e2 := (hv.cell (p := ⟨w.heap.size, 2, none⟩) R1.out.lt).trans C2.out; have y0 := (hv.cell (p := ⟨b0, off + k * 4, none⟩) LB1.out).trans CY1.out; go_simp; rfl)); go_simp)
      (refine h_read 6 rfl (by kernel_rfl) (by kernel_rfl) (h_free rfl) ?_ ?_ ?_; rotate_left; (focus (intro v hv; have q0 := (hv.cell (p := ⟨q, 0, none⟩) NQ1.out).trans Q1.out; have e2 := (hv.cell (p := ⟨w.heap.size, 2, none⟩) R1.out.lt).trans C2.out; have y0 := (hv.cell (p := ⟨b0, off + k * 4, none⟩) LB1.out).trans CY1.out; go_simp; rfl)); go_simp)
      (refine h_read 7 rfl (by kernel_rfl) (by kernel_rfl) (h_free rfl) ?_ ?_ ?_; rotate_left; (focus (intro v hv; go_simp; rfl)); go_simp)
      (refine h_read 8 rfl (by kernel_rfl) (by kernel_rfl) (h_free rfl) ?_ ?_ ?_; rotate_left; (focus (intro v hv; go_simp; rfl)); go_simp)
      (refine h_read 9 rfl (by kernel_rfl) (by kernel_rfl) (h_free rfl) ?_ ?_ ?_; rotate_left; (focus (intro v hv; go_simp; rfl)); go_simp)
      (refine h_read 10 rfl (by kernel_rfl) (by kernel_rfl) (h_free rfl) ?_ ?_ ?_; rotate_left; (focus (intro v hv; have q0 := (hv.cell (p := ⟨q, 0, none⟩) NQ1.out).trans Q1.out; have e2 := (hv.cell (p := ⟨w.heap.size, 2, none⟩) R1.out.lt).trans C2.out; have y0 := (hv.cell (p := ⟨b0, off + k * 4, none⟩) LB1.out).trans CY1.out; go_simp; rfl)); go_simp)
      (refine h_read 11 rfl (by kernel_rfl) (by kernel_rfl) (h_free rfl) ?_ ?_ ?_; rotate_left; (focus (intro v hv; go_simp; rfl)); go_simp)
      (refine h_read 12 rfl (by kernel_rfl) (by kernel_rfl) (h_free rfl) ?_ ?_ ?_; rotate_left; (focus (intro v hv; have q0 := (hv.cell (p := ⟨q, 0, none⟩) NQ1.out).trans Q1.out; have e2 := (hv.cell (p := ⟨w.heap.size, 2, none⟩) R1.out.lt).trans C2.out; have y0 := (hv.cell (p := ⟨b0, off + k * 4, none⟩) LB1.out).trans CY1.out; go_simp; rfl)); go_simp)
      (refine h_read 13 rfl (by kernel_rfl) (by kernel_rfl) (h_free rfl) ?_ ?_ ?_; rotate_left; (focus (intro v hv; go_simp; rfl)); go_simp)
      (refine h_read 14 rfl (by kernel_rfl) (by kernel_rfl) (h_free rfl) ?_ ?_ ?_; rotate_left; (focus (intro v hv; have q0 := (hv.cell (p := ⟨q, 0, none⟩) NQ1.out).trans Q1.out; have e2 := (hv.cell (p := ⟨w.heap.size, 2, none⟩) R1.out.lt).trans C2.out; have y0 := (hv.cell (p := ⟨b0, off + k * 4, none⟩) LB1.out).trans CY1.out; go_simp; rfl)); go_simp)
      (refine h_read 15 rfl (by kernel_rfl) (by kernel_rfl) (h_free rfl) ?_ ?_ ?_; rotate_left; (focus (intro v hv; go_simp; rfl)); go_simp)
      (refine h_read 16 rfl (by kernel_rfl) (by kernel_rfl) (h_free rfl) ?_ ?_ ?_; rotate_left; (focus (intro v hv; go_simp; rfl)); go_simp)
      (refine h_read 17 rfl (by kernel_rfl) (by kernel_rfl) (h_free rfl) ?_ ?_ ?_; rotate_left; (focus (intro v hv; have q0 := (hv.cell (p := ⟨q, 0, none⟩) NQ1.out).trans Q1.out; have e2 := (hv.cell (p := ⟨w.heap.size, 2, none⟩) R1.out.lt).trans C2.out; have y0 := (hv.cell (p := ⟨b0, off + k * 4, none⟩) LB1.out).trans CY1.out; go_simp; rfl)); go_simp)
      (refine h_read 18 rfl (by kernel_rfl) (by kernel_rfl) (h_free rfl) ?_ ?_ ?_; rotate_left; (focus (intro v hv; go_simp; rfl)); go_simp)
      refine h_done (by kernel_rfl) ?_
      go_wp2_with fail
      go_meet
      case rel => exact ⟨rfl, J0⟩
  case rest =>
    obtain ⟨rfl, BC⟩ := hcut
    have R1 := Lib.hid (R1.out.below BC.out R1.out.lt)
    have B1 := Lib.hid (B1.out.trans (BC.out.mono B1.out.size))
    clear BC
    obtain ⟨w1, rfl⟩ : ∃ x : World, x = wc := ⟨_, rfl⟩
    obtain ⟨g5, hg5⟩ : ∃ g, w.heap.size = g := ⟨_, rfl⟩
    have P1 := Lib.hid (HP.out.mono B1.out)
    have K1 := Lib.hid (HK.out.below B1.out HK.out.pos)
    have I1 := Lib.hid (show Below wI.heap.size wI w1 by rw [HBI.out]; exact HBW.out.trans (B1.out.mono hszb))
    have BW1 := Lib.hid (show Below base w w1 from B1.out.mono hszb)
    have Z1 := Lib.hid (show base ≤ w1.heap.size from Nat.le_trans hszb B1.out.size)
    have ZW := Lib.hid (show w.heap.size ≤ w1.heap.size from B1.out.size)
    have Z5 := Lib.hid R1.out.lt
    have N5S := Lib.hid (show ¬ S g5 from fun e => by have := NS.out g5 e; omega)
    have N5T := Lib.hid (show ¬ T g5 from fun e => by have := NT.out g5 e; omega)
    rw [hg5] at R1 NS NT NQ c4 Z5 ZW ⊢
    clear c4
    obtain ⟨c0, c1, c2, c3, c4, c5, c6, c7⟩ := R1.out.d8
    have NSI := Lib.hid (show nn ≠ 0 → ∀ b off s, na = some ⟨b, off, s⟩ → ¬ S b from fun hn b off s e hs => by have h1 := ls_old RN.out hn b off s e; have h2 := P1.out.sb b hs; rw [HBI.out] at h1; exact absurd h1 (Nat.not_lt.2 h2))
    by_cases ht : at0.tmod 2 = 0
    · have ge : (at0.tmod 2 == 0) = true := by rw [ht]; rfl
      have HL2X := Lib.hid (show (L.filter fun f => !goesC nn0 (ns ++ [sm]) ls f) = L2 by have := HL2.out; rw [if_pos (tmod2 ht)] at this; exact this)
      have HCL := Lib.hid (plsclone na nn nc ns w1 (RN.out.mono strOk I1.out) (by omega))
      have SSM := Lib.hid HSZ.out
      clear c1 c3 c4 c5 c7 ht
      go_wp2_with (first
        | (go_at_call 30; (with_reducible refine HCL.out.mono ?_); rintro x w2 ⟨a2, c2', rfl, hl, hb⟩; have L2' := Lib.hid hl; have D2 := Lib.hid hb; clear hl hb)
        | (at_builtin; (with_reducible refine append_ls strOk (o := ⟨some 65, _, _, _, _, _⟩) rfl _ _ rfl w1.heap.size _ _ ?_ (L2'.out.kept ((Below.refl _ _).alloc (Nat.le_refl _) _)) (some ⟨w2.heap.size, 0, none⟩) 1 1 [sm] ?_ (ls_new strOk w2 sm _ rfl SSM.out) ?_ ?_ ?_); (focus (first | (go_simp; done) | (go_simp; rfl))); (focus (first | (go_simp; done) | (go_simp; rfl))); (focus (have := RN.out.hlen; omega)); (focus (have := D2.out.size; simp; omega)); intro v6 w6 hl hb _ _; have L6 := Lib.hid hl; have D6 := Lib.hid ((D2.out.trans ((Below.refl w2.heap.size w2).alloc (Nat.le_refl _) (.cells #[.string sm] 9) |>.mono D2.out.size)).trans hb); clear hl hb c2 c6))
      obtain ⟨wq, rfl⟩ : ∃ x : World, x = w6 := ⟨_, rfl⟩
      obtain ⟨NS', hNS⟩ : ∃ N, ns ++ [sm] = N := ⟨_, rfl⟩
      have hfit : ∀ x ∈ NS', strE.fit wq x := by
        rw [← hNS]
        intro x hx
        rcases List.mem_append.1 hx with hx | hx
        · exact RN.out.hfit x hx
        · simp at hx; subst hx; exact SSM.out
      obtain ⟨nm, hnm⟩ : ∃ nm, NS'.length = nm := ⟨_, rfl⟩
      have hnm30 : nm ≤ 30 := by rw [← hnm, ← hNS, List.length_append, RN.out.hlen]; simp; omega
      rw [hNS] at L6 HL2X
      obtain ⟨nb, nd, hv, hls, hob⟩ := L6.out.ls strOk hfit
      rw [hnm] at hv hls
      subst hv
      have LQ := Lib.hid hls
      have NB := Lib.hid (show nm ≠ 0 → ∀ b off s, nb = some ⟨b, off, s⟩ → ¬ S b from fun _ b off s e hs => by
        have h1 := NS.out b hs
        have h2 : w1.heap.size ≤ b := (World.ownsRow.lt L6.out b (by subst e; exact own_of L6.out)).1
        have h3 := ZW.out
        omega)
      have PQ := Lib.hid (P1.out.mono D6.out)
      have ZQ := Lib.hid (show base ≤ wq.heap.size from Nat.le_trans Z1.out D6.out.size)
      have BWQ := Lib.hid (show Below base w wq from BW1.out.trans (D6.out.mono Z1.out))
      have BQW := Lib.hid (show Below base wI wq from HBW.out.trans BWQ.out)
      have RQ := Lib.hid (R1.out.below D6.out R1.out.lt)
      clear hls hob hfit hnm hNS c0
      have HGN := Lib.hid (show (L.filter fun f => !goesC nn0 NS' ls f) = L2 from HL2X.out)
      have HQ0 := Lib.hid (fun w' (hb : Below wq.heap.size wq w') => by have := qsweep (PQ.out.mono hb) (Nat.le_trans ZQ.out hb.size) HS.out nn0 nb nm nd NS' la ln lc ls ((RL.out.mono intOk (show Below wI.heap.size wI w' by rw [HBI.out]; exact BQW.out.trans (hb.mono ZQ.out))).sl) (LQ.out.mono strOk hb) (fun hn b off s e hs => by have h1 := ls_old RL.out hn b off s e; have h2 := P1.out.sb b hs; rw [HBI.out] at h1; omega) NB.out; rw [HGN.out] at this; exact this)
      obtain ⟨gz, hgz⟩ : ∃ gz, (L.filter (goesC nn0 NS' ls)).length = gz := ⟨_, rfl⟩
      rw [hgz] at HQ0
      have HGZ := Lib.hid hgz
      clear hgz
      refine region_h (fun v => Row v g5 34 (doC op nn0 at0 ba bn bc s ka kn kc na nn nc la ln lc)) (by kernel_rfl) (by kernel_rfl) (RQ.out.below (Below.refl wq.heap.size wq).drew RQ.out.lt) ?_
      obtain ⟨d0, hd0⟩ : ∃ wd, wq.drew = wd := ⟨_, rfl⟩
      have J0 : Hid (Below wq.heap.size wq d0) := Lib.hid (by rw [← hd0]; exact (Below.refl _ _).drew)
      have R0 := Lib.hid (RQ.out.below J0.out RQ.out.lt)
      rw [hd0]
      clear hd0
      (refine h_read 0 rfl (by kernel_rfl) (by kernel_rfl) (h_free rfl) ?_ ?_ ?_; rotate_left; (focus (intro v hv; go_simp; rfl)); go_simp)
      (refine h_read 1 rfl (by kernel_rfl) (by kernel_rfl) (h_free rfl) ?_ ?_ ?_; rotate_left; (focus (intro v hv; go_simp; rfl)); go_simp)
      (refine h_read 2 rfl (by kernel_rfl) (by kernel_rfl) (h_free rfl) ?_ ?_ ?_; rotate_left; (focus (intro v hv; have x1 := hv.d8.2.1; have x7 := hv.d8.2.2.2.2.2.2.2; go_simp; rfl)); go_simp)
      (refine h_read 3 rfl (by kernel_rfl) (by kernel_rfl) (h_free rfl) ?_ ?_ ?_; rotate_left; (focus (intro v hv; go_simp; rfl)); go_simp)
      (refine h_read 4 rfl (by kernel_rfl) (by kernel_rfl) (h_free rfl) ?_ ?_ ?_; rotate_left; (focus (intro v hv; go_simp; rfl)); go_simp)
      (refine h_read 5 rfl (by kernel_rfl) (by kernel_rfl) (h_free rfl) ?_ ?_ ?_; rotate_left; (focus (intro v hv; have x1 := hv.d8.2.1; have x7 := hv.d8.2.2.2.2.2.2.2; go_simp; rfl)); go_simp)
      (refine h_read 7 rfl (by kernel_rfl) (by kernel_rfl) (h_free rfl) ?_ ?_ ?_; rotate_left; (focus (intro v hv; go_simp; rfl)); go_simp)
      (refine h_read 8 rfl (by kernel_rfl) (by kernel_rfl) (h_free rfl) ?_ ?_ ?_; rotate_left; (focus (intro v hv; go_simp; rfl)); go_simp)
      (refine h_read 9 rfl (by kernel_rfl) (by kernel_rfl) (h_free rfl) ?_ ?_ ?_; rotate_left; (focus (intro v hv; have x1 := hv.d8.2.1; have x7 := hv.d8.2.2.2.2.2.2.2; go_simp; rfl)); go_simp)
      (refine h_read 10 rfl (by kernel_rfl) (by kernel_rfl) (h_free rfl) ?_ ?_ ?_; rotate_left; (focus (intro v hv; go_simp; rfl)); go_simp)
      (refine h_read 11 rfl (by kernel_rfl) (by kernel_rfl) (h_free rfl) ?_ ?_ ?_; rotate_left; (focus (intro v hv; go_simp; rfl)); go_simp)
      (refine h_read 12 rfl (by kernel_rfl) (by kernel_rfl) (h_free rfl) ?_ ?_ ?_; rotate_left; (focus (intro v hv; have x1 := hv.d8.2.1; have x7 := hv.d8.2.2.2.2.2.2.2; go_simp; rfl)); go_simp)
      (refine h_call 6 rfl (by kernel_rfl) (h_free rfl) 29 ?_ ?_ ?_; rotate_left; (focus (go_simp; rfl)))
      refine (HQ0.out d0 J0.out).mono ?_
      rintro z d1 ⟨rfl, hst⟩
      obtain ⟨⟨S', hp2, hS'⟩, hft⟩ := hst
      have P2' := Lib.hid hp2
      have Z2 := Lib.hid (show base ≤ d1.heap.size from Nat.le_trans (Nat.le_trans ZQ.out J0.out.size) hft.size)
      have F2 := Lib.hid ((J0.out.mono ZQ.out).trans (hft.below (Nat.le_trans ZQ.out J0.out.size) PQ.out.sb))
      have R2 := Lib.hid (R0.out.ft hft N5S.out)
      have QX := xsweep hp2 Z2.out HS.out nn0 nb nm nd NS' la ln lc ls ((LQ.out.mono strOk J0.out).stay0 hft.size (fun hn b off s e hlt => hft.block b hlt (NB.out hn b off s e)) LQ.out.hfit) (by omega) (RL.out.mono intOk (show Below wI.heap.size wI d1 by rw [HBI.out]; exact BQW.out.trans F2.out)) (by omega)
      rw [HGN.out, HGZ.out] at QX
      have HQX := Lib.hid QX
      clear hp2 hS' hft QX
      refine ⟨_, rfl, R2.out, ?_⟩
      go_simp
      (refine h_call 13 rfl (by kernel_rfl) (h_free rfl) 46 ?_ ?_ ?_; rotate_left; (focus (go_simp; rfl)))
      refine HQX.out.mono ?_
      rintro z d2 ⟨rfl, hst⟩
      obtain ⟨⟨T', hp3, hT'⟩, hft⟩ := hst
      have P3 := Lib.hid hp3
      have F3 := Lib.hid (hft.below Z2.out P2'.out.tb)
      have R3 := Lib.hid (R2.out.ft hft N5T.out)
      clear hp3 hT' hft
      refine ⟨_, rfl, R3.out, ?_⟩
      go_simp
      (refine h_read 14 rfl (by kernel_rfl) (by kernel_rfl) (h_free rfl) ?_ ?_ ?_; rotate_left; (focus (intro v hv; go_simp; rfl)); go_simp)
      (refine h_read 15 rfl (by kernel_rfl) (by kernel_rfl) (h_free rfl) ?_ ?_ ?_; rotate_left; (focus (intro v hv; go_simp; rfl)); go_simp)
      refine h_done (by kernel_rfl) ?_
      go_wp2_with fail
      go_ret
      exact ⟨one (vbool (by simp)), ⟨S', T', P3.out⟩, BWQ.out.trans (F2.out.trans F3.out)⟩
    · have ge : (at0.tmod 2 == 0) = false := by rw [beq_eq_false_iff_ne]; exact ht
      have HL2X := Lib.hid (show (L.filter fun f => !goesC nn0 ns ls f) = L2 by have := HL2.out; rw [if_neg (tmod2' ht)] at this; exact this)
      clear c1 c3 c4 c5 c7 ht
      go_wp2_with fail
      obtain ⟨wq, hwq⟩ : ∃ x : World, w1 = x := ⟨_, rfl⟩
      obtain ⟨NS', rfl⟩ : ∃ x, x = ns := ⟨_, rfl⟩
      obtain ⟨nb, rfl⟩ : ∃ x, x = na := ⟨_, rfl⟩
      obtain ⟨nm, rfl⟩ : ∃ x, x = nn := ⟨_, rfl⟩
      obtain ⟨nd, rfl⟩ : ∃ x, x = nc := ⟨_, rfl⟩
      have LQ := Lib.hid (show Ls strE wq nb nm nd NS' by rw [← hwq]; exact RN.out.mono strOk I1.out)
      have NB := NSI
      have PQ := Lib.hid (show P2 wq base room p q L L S T by rw [← hwq]; exact P1.out)
      have ZQ := Lib.hid (show base ≤ wq.heap.size by rw [← hwq]; exact Z1.out)
      have BWQ := Lib.hid (show Below base w wq by rw [← hwq]; exact BW1.out)
      have BQW := Lib.hid (show Below base wI wq from HBW.out.trans BWQ.out)
      have RQ := Lib.hid (show Row wq g5 34 (doC op nn0 at0 ba bn bc s ka kn kc nb nm nd la ln lc) by rw [← hwq]; exact R1.out)
      clear c0 c2 c6
      rw [hwq]
      have HGN := Lib.hid (show (L.filter fun f => !goesC nn0 NS' ls f) = L2 from HL2X.out)
      have HQ0 := Lib.hid (fun w' (hb : Below wq.heap.size wq w') => by have := qsweep (PQ.out.mono hb) (Nat.le_trans ZQ.out hb.size) HS.out nn0 nb nm nd NS' la ln lc ls ((RL.out.mono intOk (show Below wI.heap.size wI w' by rw [HBI.out]; exact BQW.out.trans (hb.mono ZQ.out))).sl) (LQ.out.mono strOk hb) (fun hn b off s e hs => by have h1 := ls_old RL.out hn b off s e; have h2 := P1.out.sb b hs; rw [HBI.out] at h1; omega) NB.out; rw [HGN.out] at this; exact this)
      obtain ⟨gz, hgz⟩ : ∃ gz, (L.filter (goesC nn0 NS' ls)).length = gz := ⟨_, rfl⟩
      rw [hgz] at HQ0
      have HGZ := Lib.hid hgz
      clear hgz
      refine region_h (fun v => Row v g5 34 (doC op nn0 at0 ba bn bc s ka kn kc nb nm nd la ln lc)) (by kernel_rfl) (by kernel_rfl) (RQ.out.below (Below.refl wq.heap.size wq).drew RQ.out.lt) ?_
      obtain ⟨d0, hd0⟩ : ∃ wd, wq.drew = wd := ⟨_, rfl⟩
      have J0 : Hid (Below wq.heap.size wq d0) := Lib.hid (by rw [← hd0]; exact (Below.refl _ _).drew)
      have R0 := Lib.hid (RQ.out.below J0.out RQ.out.lt)
      rw [hd0]
      clear hd0
      (refine h_read 0 rfl (by kernel_rfl) (by kernel_rfl) (h_free rfl) ?_ ?_ ?_; rotate_left; (focus (intro v hv; go_simp; rfl)); go_simp)
      (refine h_read 1 rfl (by kernel_rfl) (by kernel_rfl) (h_free rfl) ?_ ?_ ?_; rotate_left; (focus (intro v hv; go_simp; rfl)); go_simp)
      (refine h_read 2 rfl (by kernel_rfl) (by kernel_rfl) (h_free rfl) ?_ ?_ ?_; rotate_left; (focus (intro v hv; have x1 := hv.d8.2.1; have x7 := hv.d8.2.2.2.2.2.2.2; go_simp; rfl)); go_simp)
      (refine h_read 3 rfl (by kernel_rfl) (by kernel_rfl) (h_free rfl) ?_ ?_ ?_; rotate_left; (focus (intro v hv; go_simp; rfl)); go_simp)
      (refine h_read 4 rfl (by kernel_rfl) (by kernel_rfl) (h_free rfl) ?_ ?_ ?_; rotate_left; (focus (intro v hv; go_simp; rfl)); go_simp)
      (refine h_read 5 rfl (by kernel_rfl) (by kernel_rfl) (h_free rfl) ?_ ?_ ?_; rotate_left; (focus (intro v hv; have x1 := hv.d8.2.1; have x7 := hv.d8.2.2.2.2.2.2.2; go_simp; rfl)); go_simp)
      (refine h_read 7 rfl (by kernel_rfl) (by kernel_rfl) (h_free rfl) ?_ ?_ ?_; rotate_left; (focus (intro v hv; go_simp; rfl)); go_simp)
      (refine h_read 8 rfl (by kernel_rfl) (by kernel_rfl) (h_free rfl) ?_ ?_ ?_; rotate_left; (focus (intro v hv; go_simp; rfl)); go_simp)
      (refine h_read 9 rfl (by kernel_rfl) (by kernel_rfl) (h_free rfl) ?_ ?_ ?_; rotate_left; (focus (intro v hv; have x1 := hv.d8.2.1; have x7 := hv.d8.2.2.2.2.2.2.2; go_simp; rfl)); go_simp)
      (refine h_read 10 rfl (by kernel_rfl) (by kernel_rfl) (h_free rfl) ?_ ?_ ?_; rotate_left; (focus (intro v hv; go_simp; rfl)); go_simp)
      (refine h_read 11 rfl (by kernel_rfl) (by kernel_rfl) (h_free rfl) ?_ ?_ ?_; rotate_left; (focus (intro v hv; go_simp; rfl)); go_simp)
      (refine h_read 12 rfl (by kernel_rfl) (by kernel_rfl) (h_free rfl) ?_ ?_ ?_; rotate_left; (focus (intro v hv; have x1 := hv.d8.2.1; have x7 := hv.d8.2.2.2.2.2.2.2; go_simp; rfl)); go_simp)
      (refine h_call 6 rfl (by kernel_rfl) (h_free rfl) 29 ?_ ?_ ?_; rotate_left; (focus (go_simp; rfl)))
      refine (HQ0.out d0 J0.out).mono ?_
      rintro z d1 ⟨rfl, hst⟩
      obtain ⟨⟨S', hp2, hS'⟩, hft⟩ := hst
      have P2' := Lib.hid hp2
      have Z2 := Lib.hid (show base ≤ d1.heap.size from Nat.le_trans (Nat.le_trans ZQ.out J0.out.size) hft.size)
      have F2 := Lib.hid ((J0.out.mono ZQ.out).trans (hft.below (Nat.le_trans ZQ.out J0.out.size) PQ.out.sb))
      have R2 := Lib.hid (R0.out.ft hft N5S.out)
      have QX := xsweep hp2 Z2.out HS.out nn0 nb nm nd NS' la ln lc ls ((LQ.out.mono strOk J0.out).stay0 hft.size (fun hn b off s e hlt => hft.block b hlt (NB.out hn b off s e)) LQ.out.hfit) (by omega) (RL.out.mono intOk (show Below wI.heap.size wI d1 by rw [HBI.out]; exact BQW.out.trans F2.out)) (by omega)
      rw [HGN.out, HGZ.out] at QX
      have HQX := Lib.hid QX
      clear hp2 hS' hft QX
      refine ⟨_, rfl, R2.out, ?_⟩
      go_simp
      (refine h_call 13 rfl (by kernel_rfl) (h_free rfl) 46 ?_ ?_ ?_; rotate_left; (focus (go_simp; rfl)))
      refine HQX.out.mono ?_
      rintro z d2 ⟨rfl, hst⟩
      obtain ⟨⟨T', hp3, hT'⟩, hft⟩ := hst
      have P3 := Lib.hid hp3
      have F3 := Lib.hid (hft.below Z2.out P2'.out.tb)
      have R3 := Lib.hid (R2.out.ft hft N5T.out)
      clear hp3 hT' hft
      refine ⟨_, rfl, R3.out, ?_⟩
      go_simp
      (refine h_read 14 rfl (by kernel_rfl) (by kernel_rfl) (h_free rfl) ?_ ?_ ?_; rotate_left; (focus (intro v hv; go_simp; rfl)); go_simp)
      (refine h_read 15 rfl (by kernel_rfl) (by kernel_rfl) (h_free rfl) ?_ ?_ ?_; rotate_left; (focus (intro v hv; go_simp; rfl)); go_simp)
      refine h_done (by kernel_rfl) ?_
      go_wp2_with fail
      go_ret
      exact ⟨one (vbool (by simp)), ⟨S', T', P3.out⟩, BWQ.out.trans (F2.out.trans F3.out)⟩
theorem do28 (d : DoK) (room : Int) (L : List Fi) (wI w : World) (base p q T0 : Nat) (S T : Nat → Prop) (h : P2 w base room p q L L S T) (hs : StOk T0 room L) (hT : T0 ≤ 890) (h0 : 0 ≤ room) (hK : Ks w) (hbI : wI.heap.size = base) (hbw : Below base wI w) (hp : 0 < base) (hd : d.fit wI) (hfw : d.few = true) :
    Calls Tryz.prog 10 #[.pointer (some ⟨p, 0, none⟩), .pointer (some ⟨q, 0, none⟩), .agg d.cells.toArray] w fun e w' => e = .returned (.bool true) ∧ (∃ S' T', P2 w' base room p q (stepK room L d) (stepK room L d) S' T') ∧ Below base w w' := by
  by_cases c0 : d.op = 0 ∨ d.op = 1 ∨ d.op = 2 ∨ d.op = 3
  · exact do28_0 d room L wI w base p q T0 S T h hs hT h0 hK hbI hbw hp hd hfw c0
  by_cases c4 : d.op = 4
  · exact do28_4 d room L wI w base p q T0 S T h hs hT h0 hK hbI hbw hp hd hfw c4
  by_cases c5 : d.op = 5
  · exact do28_5 d room L wI w base p q T0 S T h hs hT h0 hK hbI hbw hp hd hfw c5
  by_cases c6 : d.op = 6
  · exact do28_6 d room L wI w base p q T0 S T h hs hT h0 hK hbI hbw hp hd hfw c6
  by_cases c7 : d.op = 7
  · exact do28_7 d room L wI w base p q T0 S T h hs hT h0 hK hbI hbw hp hd hfw c7
  by_cases c8 : d.op = 8
  · exact do28_8 d room L wI w base p q T0 S T h hs hT h0 hK hbI hbw hp hd hfw c8
  exact do28_9 d room L wI w base p q T0 S T h hs hT h0 hK hbI hbw hp hd hfw ⟨fun e => c0 (.inl e), fun e => c0 (.inr (.inl e)), fun e => c0 (.inr (.inr (.inl e))), fun e => c0 (.inr (.inr (.inr e))), c4, c5, c6, c7, c8⟩
end Go.Proofs.YtkfhppbmnjmnoaaGreatDoor.W

/- LAYER 28 (chunk): the law Lives. -/
set_option linter.unusedSimpArgs false
set_option linter.unusedVariables false
namespace Go.Proofs.YtkfhppbmnjmnoaaGreatDoor.W
open Go Go.ChangeShapes Go.WideShapes Go.ChangeAt Go.RowKit
open Go.Proofs.YtkfhppbmnjmnoaaGreatDoor.P (shaL shaL_len)

theorem do_zero28 : (Tryz.prog.info? 34).map (·.zero) = some (some (.agg (doC 0 0 0 none 0 0 ⟨#[]⟩ none 0 0 none 0 0 none 0 0).toArray)) := by kernel_rfl
theorem P2.start {w w1 w2 : World} {p q m : Nat} {room : Int} (hc : CK w1 p m room [] (fun k => w.heap.size ≤ k ∧ k < w1.heap.size)) (hx : XK w2 q room none 0 0 [] (fun k => w1.heap.size ≤ k ∧ k < w2.heap.size)) (hb : Below w1.heap.size w1 w2) (h1 : w.heap.size ≤ w1.heap.size) :
    P2 w2 w.heap.size room p q [] [] (fun k => w.heap.size ≤ k ∧ k < w1.heap.size) (fun k => w1.heap.size ≤ k ∧ k < w2.heap.size) :=
  ⟨⟨m, [], rfl, hc.mono hb⟩, ⟨none, 0, 0, [], rfl, hx⟩, fun k h h' => by omega, fun k h => h.1, fun k h => by omega⟩
theorem st_nil {room : Int} (h : 0 ≤ room ∧ room ≤ 524288) : StOk 0 room [] := ⟨by simp [RisC], by simp, by simp [usedC]; exact h.1, h.2⟩
set_option maxRecDepth 100000 in
set_option maxHeartbeats 32000000 in
theorem law_ChunkLives (room : Int) (a : Option Addr) (n c : Nat) (DL : List DoK) (w : World) (hK : Ks w) (_wr : (Lit.int .i64 room).wf = true) (h : Ls doE w a n c DL) :
    Calls Tryz.prog 3 #[.int .i64 room, .slice a n c] w fun x w' => x = .returned (.bool true) ∧ Below w.heap.size w w' := by
  have HK := Lib.hid hK
  have HA := Lib.hid (fun w' (hb : Below w.heap.size w w') => awake28 w' (HK.out.below hb HK.out.pos))
  have H := Lib.hid h
  have hm := h.hmax
  have hle := h.hle
  have hp := hK.pos
  clear hK h
  by_cases hr : room < 0 ∨ 524288 < room
  · go_enter Tryz.func3, Tryz.ntmps3
    go_wp2_with (first
      | (go_at_call 7; (with_reducible refine (cnew_bad room w hr).mono ?_); rintro e w1 ⟨rfl, rfl⟩)
      | (go_at_call 8; (with_reducible refine (xcnew_bad room w hr).mono ?_); rintro e w1 ⟨rfl, rfl⟩))
    go_loopw [33] (fun vi wr => vi = .int .i64 0 ∧ Hid (Below w.heap.size w wr)) (fun _ _ => 0)
    case atStart => exact ⟨rfl, Lib.hid (Below.refl _ _)⟩
    case round =>
      obtain ⟨rfl, HB⟩ := hrel
      by_cases hn0 : 0 < n
      · have g0 : (0 : Int) < (n : Int) := by omega
        obtain ⟨b, off, d, rfl, hx, hcell, -⟩ := H.out.at doOk28 HB.out 0 hn0
        obtain ⟨C, hC⟩ : ∃ C, d.cells = C := ⟨_, rfl⟩
        have hcl : C.length = 8 := by rw [← hC]; rfl
        have XC := Lib.hid (show ∀ j v, C[j]? = some v → wr.cell? ⟨b, off + j, none⟩ = some v from fun j v hj => by have := hcell j v (by show d.cells[j]? = _; rw [hC]; exact hj); simpa using this)
        have SZ := Lib.hid (show (Tryz.prog.info? 34).map (·.size) = some C.length by rw [hcl]; exact do_size28)
        have ZR := Lib.hid do_zero28
        have C1 := Lib.hid (show ∀ v ∈ C, v.oneCell' = true by rw [← hC]; exact doOk28.one d)
        have CL := Lib.hid hcl
        clear hx hcell hC hcl
        go_wp2_with (first
          | ((with_reducible refine load_cells (o := ⟨some 37, _, _, _, _, _⟩) rfl _ _ rfl b off ?_ C _ XC.out Tryz.underlying34 rfl ?_ ?_); (focus go_simp); (focus (exact SZ.out)))
          | ((with_reducible refine alloc_row (o := ⟨some 10, _, _, _, _, _⟩) rfl _ rfl _ ZR.out ?_); intro w4 hr4 hb4 hz4; have R4 := Lib.hid hr4; have B4 := Lib.hid (HB.out.trans (hb4.mono HB.out.size)); clear hr4 hb4 hz4)
          | ((with_reducible refine store_row (o := ⟨none, _, _, _, _, _⟩) rfl _ (.tmp 10) _ rfl wr.heap.size C ?_ ?_ 34 _ R4.out ?_ ?_ ?_ ?_); (focus go_simp); (focus (first | (go_simp; done) | (go_simp; rfl))); (focus (exact SZ.out)); (focus (rw [CL.out]; rfl)); (focus (exact C1.out)); intro w5 hr5 hu5; have B5 := Lib.hid (B4.out.trans (hu5.below HB.out.size)); clear hr5 hu5)
          | (go_at_call 18; (with_reducible refine (HA.out _ B5.out).mono ?_); rintro x wb ⟨rfl, hb⟩; have Bb := Lib.hid (B5.out.trans (hb.mono B5.out.size)); clear hb))
        go_ret
        exact ⟨rfl, Bb.out⟩
      · have g0 : ¬ (0 : Int) < (n : Int) := by omega
        go_wp2_with (first
          | (go_at_call 18; (with_reducible refine (HA.out _ HB.out).mono ?_); rintro x wb ⟨rfl, hb⟩; have Bb := Lib.hid (HB.out.trans (hb.mono HB.out.size)); clear hb))
        go_ret
        exact ⟨rfl, Bb.out⟩
  have hr2 : 0 ≤ room ∧ room ≤ 524288 := by omega
  clear hr
  obtain ⟨base, hbase⟩ : ∃ b, w.heap.size = b := ⟨_, rfl⟩
  have HBASE := Lib.hid hbase
  go_enter Tryz.func3, Tryz.ntmps3
  go_wp2_with (first
    | (go_at_call 7; (with_reducible refine (cnew room w hr2).mono ?_); rintro e w1 ⟨p, m, rfl, hck, hb⟩; have C1 := Lib.hid hck; have B1 := Lib.hid hb; clear hck hb)
    | (go_at_call 8; (with_reducible refine (xcnew room w1 hr2).mono ?_); rintro e w2 ⟨q, rfl, hxk, hb⟩; have P2I := Lib.hid (P2.start C1.out hxk hb B1.out.size); have B2 := Lib.hid (B1.out.trans (hb.mono B1.out.size)); clear hxk hb))
  go_loopw [33] (fun vi wr => ∃ (k : Nat) (L : List Fi) (S T : Nat → Prop), vi = .int .i64 (k : Int) ∧ k ≤ n ∧ k ≤ 50 ∧ Hid (P2 wr base room p q L L S T) ∧ Hid (StOk k room L) ∧ Hid (Below base w wr)) (fun vi _ => n - (intOf vi).toNat)
  case atStart => exact ⟨0, [], _, _, rfl, Nat.zero_le _, by omega, Lib.hid (by rw [← HBASE.out]; exact P2I.out), Lib.hid (st_nil hr2), Lib.hid (by rw [← HBASE.out]; exact B2.out)⟩
  case round =>
    obtain ⟨k, L, S, T, rfl, hk, hk50, HP, HS, HB⟩ := hrel
    have ZB := Lib.hid (show base ≤ wr.heap.size by rw [← HBASE.out]; rw [← HBASE.out] at HB; exact HB.out.size)
    by_cases hkn : k < n
    · have g0 : (0 : Int) ≤ (k : Int) := by omega
      have g1 : (k : Int) < (n : Int) := by omega
      obtain ⟨b, off, d, rfl, hx, hcell, -⟩ := H.out.at doOk28 (show Below w.heap.size w wr by rw [HBASE.out]; exact HB.out) k hkn
      have hdf : d.fit w := H.out.hfit d (List.mem_of_getElem? hx)
      have HDF := Lib.hid hdf
      obtain ⟨C, hC⟩ : ∃ C, d.cells = C := ⟨_, rfl⟩
      have hcl : C.length = 8 := by rw [← hC]; rfl
      have XC := Lib.hid (show ∀ j v, C[j]? = some v → wr.cell? ⟨b, off + k * 8 + j, none⟩ = some v from fun j v hj => hcell j v (by show d.cells[j]? = _; rw [hC]; exact hj))
      have SZ := Lib.hid (show (Tryz.prog.info? 34).map (·.size) = some C.length by rw [hcl]; exact do_size28)
      have ZR := Lib.hid do_zero28
      have C1' := Lib.hid (show ∀ v ∈ C, v.oneCell' = true by rw [← hC]; exact doOk28.one d)
      have CL := Lib.hid hcl
      have HFW := Lib.hid (fun w' => by have := few28 d w'; rw [hC] at this; exact this)
      have HDO := Lib.hid (fun (w' : World) (hb : Below wr.heap.size wr w') (hf : d.few = true) => by have := do28 d room L w w' base p q k S T (HP.out.mono hb) HS.out (by omega) hr2.1 (HK.out.below (HB.out.trans (hb.mono ZB.out)) (by rw [← HBASE.out]; exact hp)) HBASE.out (HB.out.trans (hb.mono ZB.out)) (by rw [← HBASE.out]; exact hp) HDF.out hf; rw [hC] at this; exact this)
      have HST := Lib.hid (step_ok HS.out d hdf.n64)
      obtain ⟨L', hL'⟩ : ∃ L', stepK room L d = L' := ⟨_, rfl⟩
      rw [hL'] at HST HDO
      have hus : ¬ room < (usedC L' : Int) := by have := HST.out.us; omega
      have hln := HST.out.len
      obtain ⟨UV, hUV⟩ : ∃ UV, usedC L' = UV := ⟨_, rfl⟩
      have HUV := Lib.hid hUV
      rw [hUV] at hus
      clear hx hcell hC hcl hdf hL' hUV
      by_cases h50 : k < 50
      rotate_left
      · have g5 : (50 : Int) ≤ (k : Int) := by omega
        clear hus hln
        go_wp2_with (first
          | ((with_reducible refine load_cells (o := ⟨some 37, _, _, _, _, _⟩) rfl _ _ rfl b (off + k * 8) ?_ C _ XC.out Tryz.underlying34 rfl ?_ ?_); (focus go_simp); (focus (exact SZ.out)))
          | ((with_reducible refine alloc_row (o := ⟨some 10, _, _, _, _, _⟩) rfl _ rfl _ ZR.out ?_); intro w4 hr4 hb4 hz4; have R4 := Lib.hid hr4; have B4 := Lib.hid hb4; clear hr4 hb4 hz4)
          | ((with_reducible refine store_row (o := ⟨none, _, _, _, _, _⟩) rfl _ (.tmp 10) _ rfl wr.heap.size C ?_ ?_ 34 _ R4.out ?_ ?_ ?_ ?_); (focus go_simp); (focus (first | (go_simp; done) | (go_simp; rfl))); (focus (exact SZ.out)); (focus (rw [CL.out]; rfl)); (focus (exact C1'.out)); intro w5 hr5 hu5; have B5 := Lib.hid (B4.out.trans (hu5.below (Nat.le_refl _))); clear hr5 hu5)
          | (go_at_call 18; (with_reducible refine (HA.out _ (by rw [HBASE.out]; exact HB.out.trans (B5.out.mono ZB.out))).mono ?_); rintro x wb ⟨rfl, hb⟩; have Bb := Lib.hid ((HB.out.trans (B5.out.mono ZB.out)).trans (hb.mono (Nat.le_trans ZB.out B5.out.size))); clear hb))
        go_ret
        exact ⟨rfl, by rw [HBASE.out]; exact Bb.out⟩
      have g5 : ¬ (50 : Int) ≤ (k : Int) := by omega
      cases hfw : d.few with
      | false =>
        rw [hfw] at HFW
        clear hus hln hfw
        go_wp2_with (first
          | ((with_reducible refine load_cells (o := ⟨some 37, _, _, _, _, _⟩) rfl _ _ rfl b (off + k * 8) ?_ C _ XC.out Tryz.underlying34 rfl ?_ ?_); (focus go_simp); (focus (exact SZ.out)))
          | ((with_reducible refine alloc_row (o := ⟨some 10, _, _, _, _, _⟩) rfl _ rfl _ ZR.out ?_); intro w4 hr4 hb4 hz4; have R4 := Lib.hid hr4; have B4 := Lib.hid hb4; clear hr4 hb4 hz4)
          | ((with_reducible refine store_row (o := ⟨none, _, _, _, _, _⟩) rfl _ (.tmp 10) _ rfl wr.heap.size C ?_ ?_ 34 _ R4.out ?_ ?_ ?_ ?_); (focus go_simp); (focus (first | (go_simp; done) | (go_simp; rfl))); (focus (exact SZ.out)); (focus (rw [CL.out]; rfl)); (focus (exact C1'.out)); intro w5 hr5 hu5; have R5 := Lib.hid hr5; have B5 := Lib.hid (B4.out.trans (hu5.below (Nat.le_refl _))); clear hr5 hu5)
          | ((with_reducible refine load_rowg (o := ⟨some 45, _, _, _, _, _⟩) 6 false 44 rfl _ _ rfl wr.heap.size _ C _ R5.out Tryz.underlying34 rfl ?_ ?_ ?_ ?_ ?_); (focus rfl); (focus (first | (go_simp; done) | (go_simp; rfl))); (focus go_simp); (focus (exact SZ.out)))
          | (go_at_call 9; (with_reducible refine (HFW.out _).mono ?_); rintro x w6 ⟨rfl, hb⟩; have B6 := Lib.hid (B5.out.trans (hb.mono B5.out.size)); clear hb)
          | (go_at_call 18; (with_reducible refine (HA.out _ (by rw [HBASE.out]; exact HB.out.trans (B6.out.mono ZB.out))).mono ?_); rintro x wb ⟨rfl, hb⟩; have Bb := Lib.hid ((HB.out.trans (B6.out.mono ZB.out)).trans (hb.mono (Nat.le_trans ZB.out B6.out.size))); clear hb))
        go_ret
        exact ⟨rfl, by rw [HBASE.out]; exact Bb.out⟩
      | true =>
        rw [hfw] at HFW
        have HDO2 := Lib.hid (fun w' hb => HDO.out w' hb hfw)
        clear hfw HDO
        go_wp2_with (first
          | ((with_reducible refine load_cells (o := ⟨some 37, _, _, _, _, _⟩) rfl _ _ rfl b (off + k * 8) ?_ C _ XC.out Tryz.underlying34 rfl ?_ ?_); (focus go_simp); (focus (exact SZ.out)))
          | ((with_reducible refine alloc_row (o := ⟨some 10, _, _, _, _, _⟩) rfl _ rfl _ ZR.out ?_); intro w4 hr4 hb4 hz4; have R4 := Lib.hid hr4; have B4 := Lib.hid hb4; clear hr4 hb4 hz4)
          | ((with_reducible refine store_row (o := ⟨none, _, _, _, _, _⟩) rfl _ (.tmp 10) _ rfl wr.heap.size C ?_ ?_ 34 _ R4.out ?_ ?_ ?_ ?_); (focus go_simp); (focus (first | (go_simp; done) | (go_simp; rfl))); (focus (exact SZ.out)); (focus (rw [CL.out]; rfl)); (focus (exact C1'.out)); intro w5 hr5 hu5; have R5 := Lib.hid hr5; have B5 := Lib.hid (B4.out.trans (hu5.below (Nat.le_refl _))); clear hr5 hu5)
          | ((with_reducible refine load_rowg (o := ⟨some 45, _, _, _, _, _⟩) 6 false 44 rfl _ _ rfl wr.heap.size _ C _ R5.out Tryz.underlying34 rfl ?_ ?_ ?_ ?_ ?_); (focus rfl); (focus (first | (go_simp; done) | (go_simp; rfl))); (focus go_simp); (focus (exact SZ.out)))
          | (go_at_call 9; (with_reducible refine (HFW.out _).mono ?_); rintro x w6 ⟨rfl, hb⟩; have R6 := Lib.hid (R5.out.below hb R5.out.lt); have B6 := Lib.hid (B5.out.trans (hb.mono B5.out.size)); clear hb)
          | ((with_reducible refine load_row (o := ⟨some 51, _, _, _, _, _⟩) rfl _ _ rfl wr.heap.size ?_ _ C _ R6.out Tryz.underlying34 rfl ?_ ?_); (focus go_simp); (focus (exact SZ.out)))
          | (go_at_call 10; (with_reducible refine (HDO2.out _ B6.out).mono ?_); rintro x w7 ⟨rfl, ⟨S', T', hp7⟩, hb⟩; have P7 := Lib.hid hp7; have B7 := Lib.hid ((HB.out.trans (B6.out.mono ZB.out)).trans hb); have Z7 := Lib.hid (Nat.le_trans (Nat.le_trans ZB.out B6.out.size) hb.size); have QF := Lib.hid (qfiles hp7 HST.out (by omega)); have XF := Lib.hid (fun w' (hw : Below w7.heap.size w7 w') => xfiles (P7.out.mono hw) HST.out); have QU := Lib.hid (fun w' (hw : Below w7.heap.size w7 w') => qused (P7.out.mono hw) HST.out); have XU := Lib.hid (fun w' (hw : Below w7.heap.size w7 w') => xused (P7.out.mono hw) HST.out); have QL := Lib.hid (fun w' (hw : Below w7.heap.size w7 w') => qloose (P7.out.mono hw) HST.out); have XL := Lib.hid (fun w' (hw : Below w7.heap.size w7 w') => xloose (P7.out.mono hw) HST.out); rw [HUV.out] at QU XU; clear hp7 hb)
          | (go_at_call 12; (with_reducible refine QF.out.mono ?_); rintro x w8 ⟨v8, Y8, rfl, hY8, hl8, hb⟩; obtain ⟨a8, c8, rfl, hls8, -⟩ := hl8.own.ls fiOk hl8.fit; have LY8 := Lib.hid hls8; have EY8 := Lib.hid hY8; have D8 := Lib.hid hb; clear hl8 hls8 hY8 hb)
          | (go_at_call 13; (with_reducible refine (XF.out _ D8.out).mono ?_); rintro x w9 ⟨v9, Y9, rfl, hY9, hl9, hb⟩; obtain ⟨a9, c9, rfl, hls9, -⟩ := hl9.own.ls fiOk hl9.fit; have D9 := Lib.hid (D8.out.trans (hb.mono D8.out.size)); have XS := xsame a8 a9 Y8.length c8 Y9.length c9 Y8 Y9 w9 (LY8.out.mono fiOk hb) hls9 (EY8.out.trans hY9.symm) (by have e1 := congrArg List.length EY8.out; rw [List.length_map] at e1; omega); have HXS := Lib.hid XS; clear XS hl9 hls9 hY9 hb)
          | (go_at_call 11; (with_reducible refine HXS.out.mono ?_); rintro x w10 ⟨rfl, hb⟩; have D10 := Lib.hid (D9.out.trans (hb.mono D9.out.size)); clear hb)
          | (go_at_call 14; (with_reducible refine (QU.out _ D10.out).mono ?_); rintro x w11 ⟨rfl, hb⟩; have D11 := Lib.hid (D10.out.trans (hb.mono D10.out.size)); clear hb)
          | (go_at_call 15; (with_reducible refine (XU.out _ D11.out).mono ?_); rintro x w12 ⟨rfl, rfl⟩)
          | (go_at_call 16; (with_reducible refine (QL.out _ D11.out).mono ?_); rintro x w13 ⟨rfl, hb⟩; have D13 := Lib.hid (D11.out.trans (hb.mono D11.out.size)); clear hb)
          | (go_at_call 17; (with_reducible refine (XL.out _ D13.out).mono ?_); rintro x w14 ⟨rfl, hb⟩; have D14 := Lib.hid (D13.out.trans (hb.mono D13.out.size)); clear hb)
          | (go_at_call 14; (with_reducible refine (QU.out _ D14.out).mono ?_); rintro x w15 ⟨rfl, hb⟩; have D15 := Lib.hid (D14.out.trans (hb.mono D14.out.size)); clear hb))
        go_roundw
        case rel => exact ⟨k + 1, L', S', T', by go_num, by omega, by omega, Lib.hid (P7.out.mono D15.out), HST, Lib.hid (B7.out.trans (D15.out.mono Z7.out))⟩
        case measure => simp [intOf]; omega
    · obtain rfl : k = n := by omega
      go_wp2_with (go_at_call 18; (with_reducible refine (HA.out _ (by rw [HBASE.out]; exact HB.out)).mono ?_); rintro x wb ⟨rfl, hb⟩; have Bb := Lib.hid (HB.out.trans (hb.mono ZB.out)); clear hb)
      go_ret
      exact ⟨rfl, by rw [HBASE.out]; exact Bb.out⟩
end Go.Proofs.YtkfhppbmnjmnoaaGreatDoor.W
