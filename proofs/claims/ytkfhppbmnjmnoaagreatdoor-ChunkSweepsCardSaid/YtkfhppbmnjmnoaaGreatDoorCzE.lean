import Derived.Test.YtkfhppbmnjmnoaaGreatDoorCzD
import Derived.Deep.CutBlock
/- LAYER 28 (chunk): the law's do. -/
set_option linter.unusedSimpArgs false
set_option linter.unusedVariables false
namespace Go.Proofs.YtkfhppbmnjmnoaaGreatDoor.W
open Go Go.ChangeShapes Go.WideShapes Go.ChangeAt Go.RowKit
open Go.Proofs.YtkfhppbmnjmnoaaGreatDoor.P (shaL shaL_len)

def sumK (L : List Fi) (n at' : Int) (s : ByteArray) : ByteArray := if 0 < L.length ∧ n % 2 = 0 then (match L[(IntKind.u64.wrap at' % (L.length : Int)).toNat]? with | some f => f.s | none => s) else s
def stepK (room : Int) (L : List Fi) (d : DoK) : List Fi :=
  if d.op = 0 ∨ d.op = 1 ∨ d.op = 2 ∨ d.op = 3 then (putC room L d.b d.n).1
  else if d.op = 4 then L
  else if d.op = 5 then syncC L
  else if d.op = 6 then crashC d.ks 0 L
  else if d.op = 7 then rotC L d.n d.at' d.n
  else if d.op = 8 then L.filter intactC
  else L.filter fun f => !goesC d.n (if d.at' % 2 = 0 then d.ns ++ [sumK L d.n d.at' d.s] else d.ns) d.ls f
theorem step_ok {T0 : Nat} {room : Int} {L : List Fi} (h : StOk T0 room L) (d : DoK) (hn : SI64 d.n) : StOk (T0 + 1) room (stepK room L d) := by
  unfold stepK
  split
  · exact h.put d.b d.n hn
  · have h' := h.more (Nat.le_succ T0)
    split
    · exact h'
    · split
      · exact h'.sync
      · split
        · exact h'.crash d.ks 0
        · split
          · exact h'.rot d.n d.at' d.n
          · split
            · exact h'.filter _
            · exact h'.filter _
theorem tmod2 {n : Int} (h : n.tmod 2 = 0) : n % 2 = 0 := Int.dvd_iff_emod_eq_zero.1 (Int.dvd_iff_tmod_eq_zero.2 h)
theorem tmod2' {n : Int} (h : ¬ n.tmod 2 = 0) : ¬ n % 2 = 0 := fun e => h (Int.dvd_iff_tmod_eq_zero.1 (Int.dvd_iff_emod_eq_zero.2 e))
theorem wrap_u64_bd (x : Int) : 0 ≤ IntKind.u64.wrap x ∧ IntKind.u64.wrap x < 18446744073709551616 := by rw [IntKind.wrap_u64]; omega
theorem ls_old {α : Type} {E : El α} {w : World} {a : Option Addr} {n c : Nat} {L : List α} (h : Ls E w a n c L) (hn : n ≠ 0) : ∀ b off s, a = some ⟨b, off, s⟩ → b < w.heap.size := by
  rintro b off s rfl
  obtain ⟨b', o', e, hlt, -⟩ := h.hcells.resolve_left hn
  injection e with e
  injection e with e1 e2 e3
  subst e1
  exact hlt
theorem ls_of_own {w : World} {base gl gc : Nat} {ga : Option Addr} {L : List ByteArray} (h : LsO strE w base (.slice ga gl gc) L) (hf : ∀ x ∈ L, x.size ≤ maxLen) (hl : L.length = gl) : Ls strE w ga gl gc L := by
  obtain ⟨a, c, e, hls, -⟩ := h.ls strOk hf
  rw [hl] at e hls
  injection e with e1 e2 e3
  subst e1 e3
  exact hls
theorem own_of {w : World} {base n c b off : Nat} {s : Option Nat} {L : List ByteArray} (h : LsO strE w base (.slice (some ⟨b, off, s⟩) n c) L) : (Value.slice (some ⟨b, off, s⟩) n c).ownBlock = some b := by
  rcases h.2 with ⟨e, -⟩ | ⟨g, cap, cur, e, -⟩
  · cases e
  · injection e with e1 e2 e3
    injection e1 with e1
    injection e1 with e1 e4 e5
    subst e1 e4 e5
    rfl
theorem P2.ft {w w' : World} {base p q : Nat} {room : Int} {L M : List Fi} {S T F : Nat → Prop} (h : P2 w base room p q L M S T) (k : Ft F w w') (h1 : ∀ b, F b → ¬ S b) (h2 : ∀ b, F b → ¬ T b) : P2 w' base room p q L M S T := by
  obtain ⟨m, X, e, hc⟩ := h.c
  obtain ⟨a, n, c, Y, e2, hx⟩ := h.x
  exact ⟨⟨m, X, e, hc.ft k (fun b hs hf => h1 b hf hs)⟩, ⟨a, n, c, Y, e2, hx.ft k (fun b hs hf => h2 b hf hs)⟩, h.dj, h.sb, h.tb⟩
theorem wrap8_succ (x : UInt8) : IntKind.u8.wrap ((x.toNat : Int) + 1) = ((x + 1).toNat : Int) := by
  rw [IntKind.wrap_u8]
  simp [UInt8.toNat_add]
set_option maxRecDepth 100000 in
set_option maxHeartbeats 16000000 in
theorem plsclone (a : Option Addr) (n c : Nat) (L : List ByteArray) (w : World) (h : Ls strE w a n c L) (hn : n ≤ 1000) :
    Calls Tryz.prog 30 #[.slice a n c] w fun x w' => ∃ a' c', x = .returned (.slice a' n c') ∧ LsO strE w' w.heap.size (.slice a' n c') L ∧ Below w.heap.size w w' := by
  have H := Lib.hid h
  have hnil := fun (w : World) (a : Option Addr) (n c : Nat) => Lib.run_eql_slice_nil (P := Tryz.prog) w 32 9 a n c 0 0 Tryz.underlying32
  rcases a with _ | ad
  · have h0 := h.hnil rfl
    have h1 := h.hle
    have h2 := h.hlen
    obtain rfl : n = 0 := by omega
    have : L = [] := List.eq_nil_of_length_eq_zero h2
    subst this h0
    clear h h1 h2
    go_enter Tryz.func30, Tryz.ntmps30
    go_wp2_with fail
    go_ret
    exact ⟨none, 0, rfl, LsO.nil _ _, Below.refl _ _⟩
  · have HL := Lib.hid h.hlen
    have HFIT := Lib.hid h.hfit
    clear h
    go_enter Tryz.func30, Tryz.ntmps30
    go_wp2_with (at_builtin; refine append_ls strOk rfl _ _ rfl w.heap.size _ [] rfl (LsO.empty w _ (Nat.le_refl _)) (some ad) n c L rfl (H.out.mono strOk ((Below.refl _ _).alloc (Nat.le_refl _) _)) (by simp; omega) (by simp) ?_; intro v2 w2 hN hb2 _ _; have N2 := Lib.hid (show LsO strE w2 w.heap.size v2 L from hN); have B2 := Lib.hid (((Below.refl _ _).alloc (Nat.le_refl _) _).trans hb2); clear hN hb2)
    obtain ⟨a2, c2, hv, -, -⟩ := N2.out.ls strOk (fun x hx => strOk.mono x _ _ (HFIT.out x hx) B2.out)
    subst hv
    rw [HL.out] at N2 ⊢
    go_ret
    exact ⟨a2, c2, rfl, N2.out, B2.out⟩
set_option maxRecDepth 100000 in
set_option maxHeartbeats 32000000 in
theorem do28_0 (d : DoK) (room : Int) (L : List Fi) (wI w : World) (base p q T0 : Nat) (S T : Nat → Prop) (h : P2 w base room p q L L S T) (hs : StOk T0 room L) (hT : T0 ≤ 890) (h0 : 0 ≤ room) (hK : Ks w) (hbI : wI.heap.size = base) (hbw : Below base wI w) (hp : 0 < base) (hd : d.fit wI) (hfw : d.few = true) (hop : d.op = 0 ∨ d.op = 1 ∨ d.op = 2 ∨ d.op = 3) :
    Calls Tryz.prog 10 #[.pointer (some ⟨p, 0, none⟩), .pointer (some ⟨q, 0, none⟩), .agg d.cells.toArray] w fun e w' => e = .returned (.bool true) ∧ (∃ S' T', P2 w' base room p q (stepK room L d) (stepK room L d) S' T') ∧ Below base w w' := by
  have HS := Lib.hid hs
  have HP := Lib.hid h
  have HK := Lib.hid hK
  have HBI := Lib.hid hbI
  have HBW := Lib.hid hbw
  obtain ⟨a, n, c, Y, hY, hx⟩ := h.x
  have HXL := Lib.hid hx
  have hnL : L.length = n := by rw [← hY, List.length_map]; exact hx.ls.hlen
  have HNL := Lib.hid hnL
  have hn5 : n ≤ 524288 := by have := hs.len; omega
  have HYL := Lib.hid hY
  have QA := Lib.hid hx.rp.k2.1
  have NQ := Lib.hid (show q < w.heap.size from hx.rp.lt)
  have hszb : base ≤ w.heap.size := by rw [← hbI]; rw [← hbI] at hbw; exact hbw.size
  obtain ⟨sm, hsm⟩ : ∃ sm, sumK L d.n d.at' d.s = sm := ⟨_, rfl⟩
  have HSM := Lib.hid hsm
  have hsz : sm.size ≤ maxLen := by
    rw [← hsm]
    unfold sumK
    split
    · split
      · rename_i f hf
        have := (hs.ok f (List.mem_of_getElem? hf)).s
        unfold maxLen; omega
      · exact hd.s
    · exact hd.s
  have HSZ := Lib.hid hsz
  obtain ⟨L2, hL2⟩ : ∃ L2, stepK room L d = L2 := ⟨_, rfl⟩
  rw [hL2]
  have hfew := hfw
  unfold DoK.few at hfew
  simp only [Bool.and_eq_true, decide_eq_true_eq] at hfew
  obtain ⟨f1, f2, f3, f4, f5⟩ := hfew
  have NS := Lib.hid (fun k (hk : S k) => (show k < w.heap.size from h.slt k hk))
  have NT := Lib.hid (fun k (hk : T k) => (show k < w.heap.size from h.tlt k hk))
  obtain ⟨u1, u2⟩ := hd.n64
  obtain ⟨u3, u4⟩ := hd.a64
  clear h hs hK hbw hx hY hnL hsm hsz hfw hbI
  obtain ⟨op, nn0, at0, ba, bn, bc, b, s, ka, kn, kc, ks, na, nn, nc, ns, la, ln, lc, ls⟩ := d
  dsimp only at f1 f2 f3 f4 f5 u1 u2 u3 u4 HSM hL2 hop
  have RB := Lib.hid (show Rd wI ba bn bc b from hd.rb)
  have RK := Lib.hid (show Ls intE wI ka kn kc ks from hd.rk)
  have RN := Lib.hid (show Ls strE wI na nn nc ns from hd.rn)
  have RL := Lib.hid (show Ls intE wI la ln lc ls from hd.rl)
  have HN64 := Lib.hid (show SI64 nn0 from hd.n64)
  clear hd
  have HL2 := Lib.hid (show (putC room L b nn0).1 = L2 by rw [← hL2]; unfold stepK; rw [if_pos hop])
  clear hL2
  go_enter Tryz.func10, Tryz.ntmps10
  go_upto_region 2 with (first
    | ((with_reducible refine box_row (o := ⟨some 5, _, _, _, _, _⟩) rfl _ _ rfl (doC op nn0 at0 ba bn bc s ka kn kc na nn nc la ln lc) rfl ?_); intro w1 hr hb hz; have R1 := Lib.hid hr; have B1 := Lib.hid hb; have c4 := hr.d8.2.2.2.2.1; clear hr hb hz))
  obtain ⟨EV, hEV⟩ : ∃ EV : Bool, (decide (0 < n) && decide (nn0.tmod 2 = 0)) = EV := ⟨_, rfl⟩
  have HEV := Lib.hid hEV
  clear hEV
  go_cut [34] from 23 to 33 (fun v wx => v = .bool EV ∧ wx = w1)
  case first =>
    clear c4
    obtain ⟨c0, c1, c2, c3, c4, c5, c6, c7⟩ := R1.out.d8
    have cq : w1.cell? ⟨q, 0, none⟩ = some (.slice a n c) := (B1.out.cell (p := ⟨q, 0, none⟩) NQ.out).trans QA.out
    by_cases hn0 : 0 < n
    · have g0 : (0 : Int) < (n : Int) := by omega
      by_cases ht : nn0.tmod 2 = 0
      · have ge : (nn0.tmod 2 == 0) = true := by rw [ht]; rfl
        have HX := Lib.hid (show EV = true by rw [← HEV.out]; simp [hn0, ht])
        clear c0 c2 c3 c4 c5 c6 c7
        go_wp2_with fail
        go_meet
        case rel => exact ⟨by rw [HX.out], rfl⟩
      · have ge : (nn0.tmod 2 == 0) = false := by rw [beq_eq_false_iff_ne]; exact ht
        have HX := Lib.hid (show EV = false by rw [← HEV.out]; simp [ht])
        clear c0 c2 c3 c4 c5 c6 c7 ht
        go_wp2_with fail
        go_meet
        case rel => exact ⟨by rw [HX.out], rfl⟩
    · have g0 : ¬ (0 : Int) < (n : Int) := by omega
      have HX := Lib.hid (show EV = false by rw [← HEV.out]; simp [hn0])
      clear c0 c1 c2 c3 c4 c5 c6 c7
      go_wp2_with fail
      go_meet
      case rel => exact ⟨by rw [HX.out], rfl⟩
  case rest =>
  obtain ⟨rfl, rfl⟩ := hcut
  obtain ⟨w1, rfl⟩ : ∃ x : World, x = wc := ⟨_, rfl⟩
  go_upto_if 34 with fail
  go_cut [7] from 35 to 52 (fun v wx => v = .string sm ∧ Hid (Below w1.heap.size w1 wx))
  case first =>
    clear c4
    cases EV
    · have HE := Lib.hid (show s = sm by
        have h1 := HEV.out
        rw [← HSM.out]; unfold sumK
        rw [if_neg]
        rintro ⟨e1, e2⟩
        rw [HNL.out] at e1
        have e3 : nn0.tmod 2 = 0 := Classical.byContradiction fun hne => tmod2' hne e2
        simp [e1, e3] at h1)
      go_wp2_with fail
      go_meet
      case rel => exact ⟨by rw [HE.out], Lib.hid (Below.refl _ _)⟩
    · have hev := HEV.out
      simp only [Bool.and_eq_true, decide_eq_true_eq] at hev
      obtain ⟨hn0, ht⟩ := hev
      obtain ⟨c0, c1, c2, c3, c4, c5, c6, c7⟩ := R1.out.d8
      have cq : w1.cell? ⟨q, 0, none⟩ = some (.slice a n c) := (B1.out.cell (p := ⟨q, 0, none⟩) NQ.out).trans QA.out
      have g0 : (0 : Int) < (n : Int) := by omega
      have hUp := wrap_u64_bd at0
      obtain ⟨U, hU⟩ : ∃ U, IntKind.u64.wrap at0 = U := ⟨_, rfl⟩
      rw [hU] at hUp
      obtain ⟨k, hk⟩ : ∃ k : Nat, U % (n : Int) = k := ⟨(U % (n : Int)).toNat, by have := Int.emod_nonneg U (show (n : Int) ≠ 0 by omega); omega⟩
      have hkn : k < n := by have := Int.emod_lt_of_pos U g0; omega
      obtain ⟨b0, off, y, rfl, hy, hcell, -⟩ := HXL.out.ls.at fiOk (Below.refl _ _) k hkn
      have HSY := Lib.hid (show y.f.s = sm by
        rw [← HSM.out]
        unfold sumK
        rw [HNL.out, if_pos ⟨hn0, tmod2 ht⟩, hU, hk, show (k : Int).toNat = k from rfl, ← HYL.out, List.getElem?_map, hy]
        rfl)
      have cy0 := hcell 0 _ rfl
      have LB := Lib.hid (show b0 < w.heap.size from lt_of_cell cy0)
      have CY := Lib.hid (show w.cell? ⟨b0, off + k * 4, none⟩ = some (.string y.f.s) from cy0)
      rw [HSY.out] at CY
      have hwn : IntKind.u64.wrap (n : Int) = (n : Int) := by rw [IntKind.wrap_u64]; omega
      have hrm : U.tmod (n : Int) = (k : Int) := by rw [Int.tmod_eq_emod_of_nonneg hUp.1]; exact hk
      have hwk : IntKind.i64.wrap (k : Int) = (k : Int) := by rw [IntKind.wrap_i64]; omega
      have hwk2 : IntKind.u64.wrap (k : Int) = (k : Int) := by rw [IntKind.wrap_u64]; omega
      have g1 : (0 : Int) ≤ (k : Int) := by omega
      have g2 : (k : Int) < (n : Int) := by omega
      have gn0 : ((n : Int) == 0) = false := by rw [beq_eq_false_iff_ne]; omega
      have cy1 := (B1.out.cell (p := ⟨b0, off + k * 4, none⟩) LB.out).trans CY.out
      clear c0 c1 c3 c4 c5 c6 c7 hy hcell cy0 hk hUp ht
      have gnn : ¬ n = 0 := by omega
      have C2 := Lib.hid c2
      have Q1 := Lib.hid cq
      have CY1 := Lib.hid cy1
      have NQ1 := Lib.hid (show q < w1.heap.size from Nat.lt_of_lt_of_le NQ.out B1.out.size)
      have LB1 := Lib.hid (show b0 < w1.heap.size from Nat.lt_of_lt_of_le LB.out B1.out.size)
      clear c2 cq cy1
      go_wp2_with fail
      refine region_h (fun v => Below w1.heap.size w1 v) (by kernel_rfl) (by kernel_rfl) (Below.refl _ _).drew ?_
      obtain ⟨d0, hd0⟩ : ∃ wd, w1.drew = wd := ⟨_, rfl⟩
      have J0 : Hid (Below w1.heap.size w1 d0) := Lib.hid (by rw [← hd0]; exact (Below.refl _ _).drew)
      rw [hd0]
      clear hd0
      (refine h_read 0 rfl (by kernel_rfl) (by kernel_rfl) (h_free rfl) ?_ ?_ ?_; rotate_left; (focus (intro v hv; go_simp; rfl)); go_simp)
      (refine h_read 1 rfl (by kernel_rfl) (by kernel_rfl) (h_free rfl) ?_ ?_ ?_; rotate_left; (focus (intro v hv; go_simp; rfl)); go_simp)
      (refine h_read 2 rfl (by kernel_rfl) (by kernel_rfl) (h_free rfl) ?_ ?_ ?_; rotate_left; (focus (intro v hv; go_simp; rfl)); go_simp)
      (refine h_read 3 rfl (by kernel_rfl) (by kernel_rfl) (h_free rfl) ?_ ?_ ?_; rotate_left; (focus (intro v hv; have q0 := (hv.cell (p := ⟨q, 0, none⟩) NQ1.out).trans Q1.out; have e2 := (hv.cell (p := ⟨w.heap.size, 2, none⟩) R1.out.lt).trans C2.out; have y0 := (hv.cell (p := ⟨b0, off + k * 4, none⟩) LB1.out).trans CY1.out; go_simp; rfl)); go_simp)
      (refine h_read 4 rfl (by kernel_rfl) (by kernel_rfl) (h_free rfl) ?_ ?_ ?_; rotate_left; (focus (intro v hv; go_simp; rfl)); go_simp)
      (refine h_read 5 rfl (by kernel_rfl) (by kernel_rfl) (h_free rfl) ?_ ?_ ?_; rotate_left; (focus (intro v hv; have q0 := (hv.cell (p := ⟨q, 0, none⟩) NQ1.out).trans Q1.out; have e2 := (hv.cell (p := ⟨w.heap.size, 2, none⟩) R1.out.lt).trans C2.out; have y0 := (hv.cell (p := ⟨b0, off + k * 4, none⟩) LB1.out).trans CY1.out; go_simp; rfl)); go_simp)
      (refine h_read 6 rfl (by kernel_rfl) (by kernel_rfl) (h_free rfl) ?_ ?_ ?_; rotate_left; (focus (intro v hv; have q0 := (hv.cell (p := ⟨q, 0, none⟩) NQ1.out).trans Q1.out; have e2 := (hv.cell (p := ⟨w.heap.size, 2, none⟩) R1.out.lt).trans C2.out; have y0 := (hv.cell (p := ⟨b0, off + k * 4, none⟩) LB1.out).trans CY1.out; go_simp; rfl)); go_simp)
      (refine h_read 7 rfl (by kernel_rfl) (by kernel_rfl) (h_free rfl) ?_ ?_ ?_; rotate_left; (focus (intro v hv; go_simp; rfl)); go_simp)
      (refine h_read 8 rfl (by kernel_rfl) (by kernel_rfl) (h_free rfl) ?_ ?_ ?_; rotate_left; (focus (intro v hv; go_simp; rfl)); go_simp)
      (refine h_read 9 rfl (by kernel_rfl) (by kernel_rfl) (h_free rfl) ?_ ?_ ?_; rotate_left; (focus (intro v hv; go_simp; rfl)); go_simp)
      (refine h_read 10 rfl (by kernel_rfl) (by kernel_rfl) (h_free rfl) ?_ ?_ ?_; rotate_left; (focus (intro v hv; have q0 := (hv.cell (p := ⟨q, 0, none⟩) NQ1.out).trans Q1.out; have e2 := (hv.cell (p := ⟨w.heap.size, 2, none⟩) R1.out.lt).trans C2.out; have y0 := (hv.cell (p := ⟨b0, off + k * 4, none⟩) LB1.out).trans CY1.out; go_simp; rfl)); go_simp)
      (refine h_read 11 rfl (by kernel_rfl) (by kernel_rfl) (h_free rfl) ?_ ?_ ?_; rotate_left; (focus (intro v hv; go_simp; rfl)); go_simp)
      (refine h_read 12 rfl (by kernel_rfl) (by kernel_rfl) (h_free rfl) ?_ ?_ ?_; rotate_left; (focus (intro v hv; have q0 := (hv.cell (p := ⟨q, 0, none⟩) NQ1.out).trans Q1.out; have e2 := (hv.cell (p := ⟨w.heap.size, 2, none⟩) R1.out.lt).trans C2.out; have y0 := (hv.cell (p := ⟨b0, off + k * 4, none⟩) LB1.out).trans CY1.out; go_simp; rfl)); go_simp)
      (refine h_read 13 rfl (by kernel_rfl) (by kernel_rfl) (h_free rfl) ?_ ?_ ?_; rotate_left; (focus (intro v hv; go_simp; rfl)); go_simp)
      (refine h_read 14 rfl (by kernel_rfl) (by kernel_rfl) (h_free rfl) ?_ ?_ ?_; rotate_left; (focus (intro v hv; have q0 := (hv.cell (p := ⟨q, 0, none⟩) NQ1.out).trans Q1.out; have e2 := (hv.cell (p := ⟨w.heap.size, 2, none⟩) R1.out.lt).trans C2.out; have y0 := (hv.cell (p := ⟨b0, off + k * 4, none⟩) LB1.out).trans CY1.out; go_simp; rfl)); go_simp)
      (refine h_read 15 rfl (by kernel_rfl) (by kernel_rfl) (h_free rfl) ?_ ?_ ?_; rotate_left; (focus (intro v hv; go_simp; rfl)); go_simp)
      (refine h_read 16 rfl (by kernel_rfl) (by kernel_rfl) (h_free rfl) ?_ ?_ ?_; rotate_left; (focus (intro v hv; go_simp; rfl)); go_simp)
      (refine h_read 17 rfl (by kernel_rfl) (by kernel_rfl) (h_free rfl) ?_ ?_ ?_; rotate_left; (focus (intro v hv; have q0 := (hv.cell (p := ⟨q, 0, none⟩) NQ1.out).trans Q1.out; have e2 := (hv.cell (p := ⟨w.heap.size, 2, none⟩) R1.out.lt).trans C2.out; have y0 := (hv.cell (p := ⟨b0, off + k * 4, none⟩) LB1.out).trans CY1.out; go_simp; rfl)); go_simp)
      (refine h_read 18 rfl (by kernel_rfl) (by kernel_rfl) (h_free rfl) ?_ ?_ ?_; rotate_left; (focus (intro v hv; go_simp; rfl)); go_simp)
      refine h_done (by kernel_rfl) ?_
      go_wp2_with fail
      go_meet
      case rel => exact ⟨rfl, J0⟩
  case rest =>
    obtain ⟨rfl, BC⟩ := hcut
    have R1 := Lib.hid (R1.out.below BC.out R1.out.lt)
    have B1 := Lib.hid (B1.out.trans (BC.out.mono B1.out.size))
    clear BC
    obtain ⟨w1, rfl⟩ : ∃ x : World, x = wc := ⟨_, rfl⟩
    obtain ⟨g5, hg5⟩ : ∃ g, w.heap.size = g := ⟨_, rfl⟩
    have P1 := Lib.hid (HP.out.mono B1.out)
    have K1 := Lib.hid (HK.out.below B1.out HK.out.pos)
    have I1 := Lib.hid (show Below wI.heap.size wI w1 by rw [HBI.out]; exact HBW.out.trans (B1.out.mono hszb))
    have BW1 := Lib.hid (show Below base w w1 from B1.out.mono hszb)
    have Z1 := Lib.hid (show base ≤ w1.heap.size from Nat.le_trans hszb B1.out.size)
    have ZW := Lib.hid (show w.heap.size ≤ w1.heap.size from B1.out.size)
    have Z5 := Lib.hid R1.out.lt
    have N5S := Lib.hid (show ¬ S g5 from fun e => by have := NS.out g5 e; omega)
    have N5T := Lib.hid (show ¬ T g5 from fun e => by have := NT.out g5 e; omega)
    rw [hg5] at R1 NS NT NQ c4 Z5 ZW ⊢
    clear c4
    obtain ⟨c0, c1, c2, c3, c4, c5, c6, c7⟩ := R1.out.d8
    rcases hop with hop | hop | hop | hop
    · have o0 : (op == 0) = true := by rw [hop]; rfl
      clear hop
      clear c5 c6 c7
      have HB1 := Lib.hid (RB.out.mono I1.out)
      obtain ⟨LP, X, E, hpc⟩ : ∃ LP X E, putC room L b nn0 = (LP, X, E) := ⟨_, _, _, rfl⟩
      have HLP := Lib.hid (show LP = L2 by have := HL2.out; rw [hpc] at this; exact this)
      have HBN := Lib.hid (show b.length = bn from RB.out.hlen)
      have eX : (X.toList == X.toList) = true := by simp
      have HCL := Lib.hid (sclone ba bn bc b w1 HB1.out (by omega))
      have HPC := Lib.hid hpc
      clear hpc
      go_wp2_with (first
        | (go_at_call 36; (with_reducible refine HCL.out.mono ?_); rintro e w2 ⟨v, rfl, hf, hb⟩; obtain ⟨ga, gc, rfl, hrd⟩ := hf.form' bn HBN.out; have OB := Lib.hid (fun k e => World.ownsRow.lt hf k e); have F2 := Lib.hid hf; have P2' := Lib.hid (P1.out.mono hb); have R2 := Lib.hid (R1.out.below hb R1.out.lt); have Z2 := Lib.hid (Nat.le_trans Z1.out hb.size); have K2 := Lib.hid (K1.out.below hb K1.out.pos); have BW2 := Lib.hid (BW1.out.trans (hb.mono Z1.out)); have c1' := R2.out.d8.2.1; have QP := qput P2'.out Z2.out HS.out (by omega) h0 K2.out ga bn gc b nn0 hrd HN64.out; rw [HPC.out] at QP; have HQP := Lib.hid QP; clear QP hf hb hrd c0 c1 c3)
        | (go_at_call 22; (with_reducible refine HQP.out.mono ?_); rintro e w3 ⟨rfl, hst⟩; obtain ⟨⟨S', hp3, hS'⟩, hft⟩ := hst; have R3 := Lib.hid (R2.out.ft hft N5S.out); have c1'' := R3.out.d8.2.1; have c3'' := R3.out.d8.2.2.2.1; have Z3 := Lib.hid (Nat.le_trans Z2.out hft.size); have ZZ3 := Lib.hid hft.size; have BW3 := Lib.hid (BW2.out.trans (hft.below Z2.out P2'.out.sb)); have F3 := Lib.hid (F2.out.keep fun k e => hft.block k (OB.out k e).2 (fun hs => by have h1 := NS.out k hs; have h2 := (OB.out k e).1; have h3 := ZW.out; omega)); have HSS := Lib.hid hS'; have P3 := Lib.hid hp3; have QX := xput hp3 Z3.out HS.out (by omega) h0 ba bn bc b nn0 (RB.out.mono (by rw [HBI.out]; exact HBW.out.trans BW3.out)) HN64.out; rw [HPC.out] at QX; have HQX := Lib.hid QX; clear QX hp3 hS' hft c1')
        | (go_at_call 37; (with_reducible refine HQX.out.mono ?_); rintro e w4 ⟨rfl, hst⟩; obtain ⟨⟨T', hp4, hT'⟩, hft⟩ := hst; have BW4 := Lib.hid (BW3.out.trans (hft.below Z3.out P3.out.tb)); have F4 := Lib.hid (F3.out.keep fun k e => hft.block k (Nat.lt_of_lt_of_le (OB.out k e).2 ZZ3.out) (fun hs => by have h1 := NT.out k hs; have h2 := (OB.out k e).1; have h3 := ZW.out; omega)); have HTT := Lib.hid hT'; have P4 := Lib.hid hp4; clear hp4 hT' hft c1'' c3''))
      go_loopw [108] (fun vi wr => ∃ (j : Nat) (l' : List UInt8), vi = .int .i64 (j : Int) ∧ j ≤ bn ∧ Hid (l'.length = bn) ∧ Hid (Fr wr w1.heap.size (.slice ga bn gc) l') ∧ Hid (Ft (fun k => (Value.slice ga bn gc).ownBlock = some k) w4 wr)) (fun vi _ => bn - (intOf vi).toNat)
      case atStart => exact ⟨0, b, rfl, Nat.zero_le _, HBN, F4, Lib.hid (Ft.refl _ _)⟩
      case round =>
        obtain ⟨j, l', rfl, hj, HLL, HF, HT⟩ := hrel
        by_cases hjm : j < bn
        · obtain ⟨g, cap, hv, hle, hge, hlt⟩ := HF.out.pos (fun e => by have := HLL.out; rw [e] at this; simp at this; omega)
          rw [HLL.out] at hv
          injection hv with e1 e2 e3
          subst e1 e3
          obtain ⟨x, hx⟩ : ∃ x, l'.getD j 0 = x := ⟨_, rfl⟩
          have HX := Lib.hid hx
          have hc : wr.cell? ⟨g, j, none⟩ = some (.int .u8 (x.toNat : Int)) := by have := HF.out.cellAt j (by rw [HLL.out]; exact hjm) HLL.out.symm; rw [hx] at this; exact this
          have hfz : wr.frozen? ⟨g, j, none⟩ = false := HF.out.frozenAt j HLL.out.symm
          have hw8 := wrap8_succ x
          have j1 : (0 : Int) ≤ (j : Int) := by omega
          have j2 : (j : Int) < (bn : Int) := by omega
          clear hx hle hge hlt e2
          go_wp2_with fail
          go_roundw
          case rel => exact ⟨j + 1, l'.set j (x + 1), by go_num, by omega, Lib.hid (by rw [List.length_set]; exact HLL.out), Lib.hid (HF.out.set j (x + 1) HLL.out.symm), Lib.hid (HT.out.trans (Ft.of_upd (Upd.setCell _ _ _ _) rfl))⟩
          case measure => simp [intOf]; omega
        · obtain rfl : j = bn := by omega
          go_wp2_with fail
          go_ret
          refine ⟨one (vbool (by simp)), ⟨S', T', ?_⟩, BW4.out.trans (HT.out.below (by have := BW4.out.size; omega) (fun k e => by have h2 := (OB.out k e).1; have h3 := Z1.out; omega))⟩
          rw [← HLP.out]
          exact P4.out.ft HT.out (fun k e hs => by have h2 := OB.out k e; have h4 := ZW.out; rcases HSS.out k hs with h1 | h1; (have := NS.out k h1; omega); omega) (fun k e hs => by have h2 := OB.out k e; have h4 := ZW.out; have h5 := ZZ3.out; rcases HTT.out k hs with h1 | h1; (have := NT.out k h1; omega); omega)
    · have o0 : (op == 0) = false := by rw [hop]; rfl
      have o1 : (op == 1) = true := by rw [hop]; rfl
      clear hop
      clear c5 c6 c7
      have HB1 := Lib.hid (RB.out.mono I1.out)
      obtain ⟨LP, X, E, hpc⟩ : ∃ LP X E, putC room L b nn0 = (LP, X, E) := ⟨_, _, _, rfl⟩
      have HLP := Lib.hid (show LP = L2 by have := HL2.out; rw [hpc] at this; exact this)
      have HBN := Lib.hid (show b.length = bn from RB.out.hlen)
      have eX : (X.toList == X.toList) = true := by simp
      have HCL := Lib.hid (sclone ba bn bc b w1 HB1.out (by omega))
      have HPC := Lib.hid hpc
      clear hpc
      go_wp2_with (first
        | (go_at_call 36; (with_reducible refine HCL.out.mono ?_); rintro e w2 ⟨v, rfl, hf, hb⟩; obtain ⟨ga, gc, rfl, hrd⟩ := hf.form' bn HBN.out; have OB := Lib.hid (fun k e => World.ownsRow.lt hf k e); have F2 := Lib.hid hf; have P2' := Lib.hid (P1.out.mono hb); have R2 := Lib.hid (R1.out.below hb R1.out.lt); have Z2 := Lib.hid (Nat.le_trans Z1.out hb.size); have K2 := Lib.hid (K1.out.below hb K1.out.pos); have BW2 := Lib.hid (BW1.out.trans (hb.mono Z1.out)); have c1' := R2.out.d8.2.1; have QP := qput P2'.out Z2.out HS.out (by omega) h0 K2.out ga bn gc b nn0 hrd HN64.out; rw [HPC.out] at QP; have HQP := Lib.hid QP; clear QP hf hb hrd c0 c1 c3)
        | (go_at_call 22; (with_reducible refine HQP.out.mono ?_); rintro e w3 ⟨rfl, hst⟩; obtain ⟨⟨S', hp3, hS'⟩, hft⟩ := hst; have R3 := Lib.hid (R2.out.ft hft N5S.out); have c1'' := R3.out.d8.2.1; have c3'' := R3.out.d8.2.2.2.1; have Z3 := Lib.hid (Nat.le_trans Z2.out hft.size); have ZZ3 := Lib.hid hft.size; have BW3 := Lib.hid (BW2.out.trans (hft.below Z2.out P2'.out.sb)); have F3 := Lib.hid (F2.out.keep fun k e => hft.block k (OB.out k e).2 (fun hs => by have h1 := NS.out k hs; have h2 := (OB.out k e).1; have h3 := ZW.out; omega)); have HSS := Lib.hid hS'; have P3 := Lib.hid hp3; have QX := xput hp3 Z3.out HS.out (by omega) h0 ba bn bc b nn0 (RB.out.mono (by rw [HBI.out]; exact HBW.out.trans BW3.out)) HN64.out; rw [HPC.out] at QX; have HQX := Lib.hid QX; clear QX hp3 hS' hft c1')
        | (go_at_call 37; (with_reducible refine HQX.out.mono ?_); rintro e w4 ⟨rfl, hst⟩; obtain ⟨⟨T', hp4, hT'⟩, hft⟩ := hst; have BW4 := Lib.hid (BW3.out.trans (hft.below Z3.out P3.out.tb)); have F4 := Lib.hid (F3.out.keep fun k e => hft.block k (Nat.lt_of_lt_of_le (OB.out k e).2 ZZ3.out) (fun hs => by have h1 := NT.out k hs; have h2 := (OB.out k e).1; have h3 := ZW.out; omega)); have HTT := Lib.hid hT'; have P4 := Lib.hid hp4; clear hp4 hT' hft c1'' c3''))
      go_loopw [108] (fun vi wr => ∃ (j : Nat) (l' : List UInt8), vi = .int .i64 (j : Int) ∧ j ≤ bn ∧ Hid (l'.length = bn) ∧ Hid (Fr wr w1.heap.size (.slice ga bn gc) l') ∧ Hid (Ft (fun k => (Value.slice ga bn gc).ownBlock = some k) w4 wr)) (fun vi _ => bn - (intOf vi).toNat)
      case atStart => exact ⟨0, b, rfl, Nat.zero_le _, HBN, F4, Lib.hid (Ft.refl _ _)⟩
      case round =>
        obtain ⟨j, l', rfl, hj, HLL, HF, HT⟩ := hrel
        by_cases hjm : j < bn
        · obtain ⟨g, cap, hv, hle, hge, hlt⟩ := HF.out.pos (fun e => by have := HLL.out; rw [e] at this; simp at this; omega)
          rw [HLL.out] at hv
          injection hv with e1 e2 e3
          subst e1 e3
          obtain ⟨x, hx⟩ : ∃ x, l'.getD j 0 = x := ⟨_, rfl⟩
          have HX := Lib.hid hx
          have hc : wr.cell? ⟨g, j, none⟩ = some (.int .u8 (x.toNat : Int)) := by have := HF.out.cellAt j (by rw [HLL.out]; exact hjm) HLL.out.symm; rw [hx] at this; exact this
          have hfz : wr.frozen? ⟨g, j, none⟩ = false := HF.out.frozenAt j HLL.out.symm
          have hw8 := wrap8_succ x
          have j1 : (0 : Int) ≤ (j : Int) := by omega
          have j2 : (j : Int) < (bn : Int) := by omega
          clear hx hle hge hlt e2
          go_wp2_with fail
          go_roundw
          case rel => exact ⟨j + 1, l'.set j (x + 1), by go_num, by omega, Lib.hid (by rw [List.length_set]; exact HLL.out), Lib.hid (HF.out.set j (x + 1) HLL.out.symm), Lib.hid (HT.out.trans (Ft.of_upd (Upd.setCell _ _ _ _) rfl))⟩
          case measure => simp [intOf]; omega
        · obtain rfl : j = bn := by omega
          go_wp2_with fail
          go_ret
          refine ⟨one (vbool (by simp)), ⟨S', T', ?_⟩, BW4.out.trans (HT.out.below (by have := BW4.out.size; omega) (fun k e => by have h2 := (OB.out k e).1; have h3 := Z1.out; omega))⟩
          rw [← HLP.out]
          exact P4.out.ft HT.out (fun k e hs => by have h2 := OB.out k e; have h4 := ZW.out; rcases HSS.out k hs with h1 | h1; (have := NS.out k h1; omega); omega) (fun k e hs => by have h2 := OB.out k e; have h4 := ZW.out; have h5 := ZZ3.out; rcases HTT.out k hs with h1 | h1; (have := NT.out k h1; omega); omega)
    · have o0 : (op == 0) = false := by rw [hop]; rfl
      have o1 : (op == 1) = false := by rw [hop]; rfl
      have o2 : (op == 2) = true := by rw [hop]; rfl
      clear hop
      clear c5 c6 c7
      have HB1 := Lib.hid (RB.out.mono I1.out)
      obtain ⟨LP, X, E, hpc⟩ : ∃ LP X E, putC room L b nn0 = (LP, X, E) := ⟨_, _, _, rfl⟩
      have HLP := Lib.hid (show LP = L2 by have := HL2.out; rw [hpc] at this; exact this)
      have HBN := Lib.hid (show b.length = bn from RB.out.hlen)
      have eX : (X.toList == X.toList) = true := by simp
      have HCL := Lib.hid (sclone ba bn bc b w1 HB1.out (by omega))
      have HPC := Lib.hid hpc
      clear hpc
      go_wp2_with (first
        | (go_at_call 36; (with_reducible refine HCL.out.mono ?_); rintro e w2 ⟨v, rfl, hf, hb⟩; obtain ⟨ga, gc, rfl, hrd⟩ := hf.form' bn HBN.out; have OB := Lib.hid (fun k e => World.ownsRow.lt hf k e); have F2 := Lib.hid hf; have P2' := Lib.hid (P1.out.mono hb); have R2 := Lib.hid (R1.out.below hb R1.out.lt); have Z2 := Lib.hid (Nat.le_trans Z1.out hb.size); have K2 := Lib.hid (K1.out.below hb K1.out.pos); have BW2 := Lib.hid (BW1.out.trans (hb.mono Z1.out)); have c1' := R2.out.d8.2.1; have QP := qput P2'.out Z2.out HS.out (by omega) h0 K2.out ga bn gc b nn0 hrd HN64.out; rw [HPC.out] at QP; have HQP := Lib.hid QP; clear QP hf hb hrd c0 c1 c3)
        | (go_at_call 22; (with_reducible refine HQP.out.mono ?_); rintro e w3 ⟨rfl, hst⟩; obtain ⟨⟨S', hp3, hS'⟩, hft⟩ := hst; have R3 := Lib.hid (R2.out.ft hft N5S.out); have c1'' := R3.out.d8.2.1; have c3'' := R3.out.d8.2.2.2.1; have Z3 := Lib.hid (Nat.le_trans Z2.out hft.size); have ZZ3 := Lib.hid hft.size; have BW3 := Lib.hid (BW2.out.trans (hft.below Z2.out P2'.out.sb)); have F3 := Lib.hid (F2.out.keep fun k e => hft.block k (OB.out k e).2 (fun hs => by have h1 := NS.out k hs; have h2 := (OB.out k e).1; have h3 := ZW.out; omega)); have HSS := Lib.hid hS'; have P3 := Lib.hid hp3; have QX := xput hp3 Z3.out HS.out (by omega) h0 ba bn bc b nn0 (RB.out.mono (by rw [HBI.out]; exact HBW.out.trans BW3.out)) HN64.out; rw [HPC.out] at QX; have HQX := Lib.hid QX; clear QX hp3 hS' hft c1')
        | (go_at_call 37; (with_reducible refine HQX.out.mono ?_); rintro e w4 ⟨rfl, hst⟩; obtain ⟨⟨T', hp4, hT'⟩, hft⟩ := hst; have BW4 := Lib.hid (BW3.out.trans (hft.below Z3.out P3.out.tb)); have F4 := Lib.hid (F3.out.keep fun k e => hft.block k (Nat.lt_of_lt_of_le (OB.out k e).2 ZZ3.out) (fun hs => by have h1 := NT.out k hs; have h2 := (OB.out k e).1; have h3 := ZW.out; omega)); have HTT := Lib.hid hT'; have P4 := Lib.hid hp4; clear hp4 hT' hft c1'' c3''))
      go_loopw [108] (fun vi wr => ∃ (j : Nat) (l' : List UInt8), vi = .int .i64 (j : Int) ∧ j ≤ bn ∧ Hid (l'.length = bn) ∧ Hid (Fr wr w1.heap.size (.slice ga bn gc) l') ∧ Hid (Ft (fun k => (Value.slice ga bn gc).ownBlock = some k) w4 wr)) (fun vi _ => bn - (intOf vi).toNat)
      case atStart => exact ⟨0, b, rfl, Nat.zero_le _, HBN, F4, Lib.hid (Ft.refl _ _)⟩
      case round =>
        obtain ⟨j, l', rfl, hj, HLL, HF, HT⟩ := hrel
        by_cases hjm : j < bn
        · obtain ⟨g, cap, hv, hle, hge, hlt⟩ := HF.out.pos (fun e => by have := HLL.out; rw [e] at this; simp at this; omega)
          rw [HLL.out] at hv
          injection hv with e1 e2 e3
          subst e1 e3
          obtain ⟨x, hx⟩ : ∃ x, l'.getD j 0 = x := ⟨_, rfl⟩
          have HX := Lib.hid hx
          have hc : wr.cell? ⟨g, j, none⟩ = some (.int .u8 (x.toNat : Int)) := by have := HF.out.cellAt j (by rw [HLL.out]; exact hjm) HLL.out.symm; rw [hx] at this; exact this
          have hfz : wr.frozen? ⟨g, j, none⟩ = false := HF.out.frozenAt j HLL.out.symm
          have hw8 := wrap8_succ x
          have j1 : (0 : Int) ≤ (j : Int) := by omega
          have j2 : (j : Int) < (bn : Int) := by omega
          clear hx hle hge hlt e2
          go_wp2_with fail
          go_roundw
          case rel => exact ⟨j + 1, l'.set j (x + 1), by go_num, by omega, Lib.hid (by rw [List.length_set]; exact HLL.out), Lib.hid (HF.out.set j (x + 1) HLL.out.symm), Lib.hid (HT.out.trans (Ft.of_upd (Upd.setCell _ _ _ _) rfl))⟩
          case measure => simp [intOf]; omega
        · obtain rfl : j = bn := by omega
          go_wp2_with fail
          go_ret
          refine ⟨one (vbool (by simp)), ⟨S', T', ?_⟩, BW4.out.trans (HT.out.below (by have := BW4.out.size; omega) (fun k e => by have h2 := (OB.out k e).1; have h3 := Z1.out; omega))⟩
          rw [← HLP.out]
          exact P4.out.ft HT.out (fun k e hs => by have h2 := OB.out k e; have h4 := ZW.out; rcases HSS.out k hs with h1 | h1; (have := NS.out k h1; omega); omega) (fun k e hs => by have h2 := OB.out k e; have h4 := ZW.out; have h5 := ZZ3.out; rcases HTT.out k hs with h1 | h1; (have := NT.out k h1; omega); omega)
    · have o0 : (op == 0) = false := by rw [hop]; rfl
      have o1 : (op == 1) = false := by rw [hop]; rfl
      have o2 : (op == 2) = false := by rw [hop]; rfl
      have o3 : (op == 3) = true := by rw [hop]; rfl
      clear hop
      clear c5 c6 c7
      have HB1 := Lib.hid (RB.out.mono I1.out)
      obtain ⟨LP, X, E, hpc⟩ : ∃ LP X E, putC room L b nn0 = (LP, X, E) := ⟨_, _, _, rfl⟩
      have HLP := Lib.hid (show LP = L2 by have := HL2.out; rw [hpc] at this; exact this)
      have HBN := Lib.hid (show b.length = bn from RB.out.hlen)
      have eX : (X.toList == X.toList) = true := by simp
      have HCL := Lib.hid (sclone ba bn bc b w1 HB1.out (by omega))
      have HPC := Lib.hid hpc
      clear hpc
      go_wp2_with (first
        | (go_at_call 36; (with_reducible refine HCL.out.mono ?_); rintro e w2 ⟨v, rfl, hf, hb⟩; obtain ⟨ga, gc, rfl, hrd⟩ := hf.form' bn HBN.out; have OB := Lib.hid (fun k e => World.ownsRow.lt hf k e); have F2 := Lib.hid hf; have P2' := Lib.hid (P1.out.mono hb); have R2 := Lib.hid (R1.out.below hb R1.out.lt); have Z2 := Lib.hid (Nat.le_trans Z1.out hb.size); have K2 := Lib.hid (K1.out.below hb K1.out.pos); have BW2 := Lib.hid (BW1.out.trans (hb.mono Z1.out)); have c1' := R2.out.d8.2.1; have QP := qput P2'.out Z2.out HS.out (by omega) h0 K2.out ga bn gc b nn0 hrd HN64.out; rw [HPC.out] at QP; have HQP := Lib.hid QP; clear QP hf hb hrd c0 c1 c3)
        | (go_at_call 22; (with_reducible refine HQP.out.mono ?_); rintro e w3 ⟨rfl, hst⟩; obtain ⟨⟨S', hp3, hS'⟩, hft⟩ := hst; have R3 := Lib.hid (R2.out.ft hft N5S.out); have c1'' := R3.out.d8.2.1; have c3'' := R3.out.d8.2.2.2.1; have Z3 := Lib.hid (Nat.le_trans Z2.out hft.size); have ZZ3 := Lib.hid hft.size; have BW3 := Lib.hid (BW2.out.trans (hft.below Z2.out P2'.out.sb)); have F3 := Lib.hid (F2.out.keep fun k e => hft.block k (OB.out k e).2 (fun hs => by have h1 := NS.out k hs; have h2 := (OB.out k e).1; have h3 := ZW.out; omega)); have HSS := Lib.hid hS'; have P3 := Lib.hid hp3; have QX := xput hp3 Z3.out HS.out (by omega) h0 ba bn bc b nn0 (RB.out.mono (by rw [HBI.out]; exact HBW.out.trans BW3.out)) HN64.out; rw [HPC.out] at QX; have HQX := Lib.hid QX; clear QX hp3 hS' hft c1')
        | (go_at_call 37; (with_reducible refine HQX.out.mono ?_); rintro e w4 ⟨rfl, hst⟩; obtain ⟨⟨T', hp4, hT'⟩, hft⟩ := hst; have BW4 := Lib.hid (BW3.out.trans (hft.below Z3.out P3.out.tb)); have F4 := Lib.hid (F3.out.keep fun k e => hft.block k (Nat.lt_of_lt_of_le (OB.out k e).2 ZZ3.out) (fun hs => by have h1 := NT.out k hs; have h2 := (OB.out k e).1; have h3 := ZW.out; omega)); have HTT := Lib.hid hT'; have P4 := Lib.hid hp4; clear hp4 hT' hft c1'' c3''))
      go_loopw [108] (fun vi wr => ∃ (j : Nat) (l' : List UInt8), vi = .int .i64 (j : Int) ∧ j ≤ bn ∧ Hid (l'.length = bn) ∧ Hid (Fr wr w1.heap.size (.slice ga bn gc) l') ∧ Hid (Ft (fun k => (Value.slice ga bn gc).ownBlock = some k) w4 wr)) (fun vi _ => bn - (intOf vi).toNat)
      case atStart => exact ⟨0, b, rfl, Nat.zero_le _, HBN, F4, Lib.hid (Ft.refl _ _)⟩
      case round =>
        obtain ⟨j, l', rfl, hj, HLL, HF, HT⟩ := hrel
        by_cases hjm : j < bn
        · obtain ⟨g, cap, hv, hle, hge, hlt⟩ := HF.out.pos (fun e => by have := HLL.out; rw [e] at this; simp at this; omega)
          rw [HLL.out] at hv
          injection hv with e1 e2 e3
          subst e1 e3
          obtain ⟨x, hx⟩ : ∃ x, l'.getD j 0 = x := ⟨_, rfl⟩
          have HX := Lib.hid hx
          have hc : wr.cell? ⟨g, j, none⟩ = some (.int .u8 (x.toNat : Int)) := by have := HF.out.cellAt j (by rw [HLL.out]; exact hjm) HLL.out.symm; rw [hx] at this; exact this
          have hfz : wr.frozen? ⟨g, j, none⟩ = false := HF.out.frozenAt j HLL.out.symm
          have hw8 := wrap8_succ x
          have j1 : (0 : Int) ≤ (j : Int) := by omega
          have j2 : (j : Int) < (bn : Int) := by omega
          clear hx hle hge hlt e2
          go_wp2_with fail
          go_roundw
          case rel => exact ⟨j + 1, l'.set j (x + 1), by go_num, by omega, Lib.hid (by rw [List.length_set]; exact HLL.out), Lib.hid (HF.out.set j (x + 1) HLL.out.symm), Lib.hid (HT.out.trans (Ft.of_upd (Upd.setCell _ _ _ _) rfl))⟩
          case measure => simp [intOf]; omega
        · obtain rfl : j = bn := by omega
          go_wp2_with fail
          go_ret
          refine ⟨one (vbool (by simp)), ⟨S', T', ?_⟩, BW4.out.trans (HT.out.below (by have := BW4.out.size; omega) (fun k e => by have h2 := (OB.out k e).1; have h3 := Z1.out; omega))⟩
          rw [← HLP.out]
          exact P4.out.ft HT.out (fun k e hs => by have h2 := OB.out k e; have h4 := ZW.out; rcases HSS.out k hs with h1 | h1; (have := NS.out k h1; omega); omega) (fun k e hs => by have h2 := OB.out k e; have h4 := ZW.out; have h5 := ZZ3.out; rcases HTT.out k hs with h1 | h1; (have := NT.out k h1; omega); omega)
set_option maxRecDepth 100000 in
set_option maxHeartbeats 32000000 in
theorem do28_4 (d : DoK) (room : Int) (L : List Fi) (wI w : World) (base p q T0 : Nat) (S T : Nat → Prop) (h : P2 w base room p q L L S T) (hs : StOk T0 room L) (hT : T0 ≤ 890) (h0 : 0 ≤ room) (hK : Ks w) (hbI : wI.heap.size = base) (hbw : Below base wI w) (hp : 0 < base) (hd : d.fit wI) (hfw : d.few = true) (hop : d.op = 4) :
    Calls Tryz.prog 10 #[.pointer (some ⟨p, 0, none⟩), .pointer (some ⟨q, 0, none⟩), .agg d.cells.toArray] w fun e w' => e = .returned (.bool true) ∧ (∃ S' T', P2 w' base room p q (stepK room L d) (stepK room L d) S' T') ∧ Below base w w' := by
  have HS := Lib.hid hs
  have HP := Lib.hid h
  have HK := Lib.hid hK
  have HBI := Lib.hid hbI
  have HBW := Lib.hid hbw
  obtain ⟨a, n, c, Y, hY, hx⟩ := h.x
  have HXL := Lib.hid hx
  have hnL : L.length = n := by rw [← hY, List.length_map]; exact hx.ls.hlen
  have HNL := Lib.hid hnL
  have hn5 : n ≤ 524288 := by have := hs.len; omega
  have HYL := Lib.hid hY
  have QA := Lib.hid hx.rp.k2.1
  have NQ := Lib.hid (show q < w.heap.size from hx.rp.lt)
  have hszb : base ≤ w.heap.size := by rw [← hbI]; rw [← hbI] at hbw; exact hbw.size
  obtain ⟨sm, hsm⟩ : ∃ sm, sumK L d.n d.at' d.s = sm := ⟨_, rfl⟩
  have HSM := Lib.hid hsm
  have hsz : sm.size ≤ maxLen := by
    rw [← hsm]
    unfold sumK
    split
    · split
      · rename_i f hf
        have := (hs.ok f (List.mem_of_getElem? hf)).s
        unfold maxLen; omega
      · exact hd.s
    · exact hd.s
  have HSZ := Lib.hid hsz
  obtain ⟨L2, hL2⟩ : ∃ L2, stepK room L d = L2 := ⟨_, rfl⟩
  rw [hL2]
  have hfew := hfw
  unfold DoK.few at hfew
  simp only [Bool.and_eq_true, decide_eq_true_eq] at hfew
  obtain ⟨f1, f2, f3, f4, f5⟩ := hfew
  have NS := Lib.hid (fun k (hk : S k) => (show k < w.heap.size from h.slt k hk))
  have NT := Lib.hid (fun k (hk : T k) => (show k < w.heap.size from h.tlt k hk))
  obtain ⟨u1, u2⟩ := hd.n64
  obtain ⟨u3, u4⟩ := hd.a64
  clear h hs hK hbw hx hY hnL hsm hsz hfw hbI
  obtain ⟨op, nn0, at0, ba, bn, bc, b, s, ka, kn, kc, ks, na, nn, nc, ns, la, ln, lc, ls⟩ := d
  dsimp only at f1 f2 f3 f4 f5 u1 u2 u3 u4 HSM hL2 hop
  have RB := Lib.hid (show Rd wI ba bn bc b from hd.rb)
  have RK := Lib.hid (show Ls intE wI ka kn kc ks from hd.rk)
  have RN := Lib.hid (show Ls strE wI na nn nc ns from hd.rn)
  have RL := Lib.hid (show Ls intE wI la ln lc ls from hd.rl)
  have HN64 := Lib.hid (show SI64 nn0 from hd.n64)
  clear hd
  have o0 : (op == 0) = false := by rw [hop]; rfl
  have o1 : (op == 1) = false := by rw [hop]; rfl
  have o2 : (op == 2) = false := by rw [hop]; rfl
  have o3 : (op == 3) = false := by rw [hop]; rfl
  have o4 : (op == 4) = true := by rw [hop]; rfl
  have HL2 := Lib.hid (show L = L2 by rw [← hL2]; unfold stepK; simp [hop])
  clear hL2 hop
  go_enter Tryz.func10, Tryz.ntmps10
  go_upto_region 2 with (first
    | ((with_reducible refine box_row (o := ⟨some 5, _, _, _, _, _⟩) rfl _ _ rfl (doC op nn0 at0 ba bn bc s ka kn kc na nn nc la ln lc) rfl ?_); intro w1 hr hb hz; have R1 := Lib.hid hr; have B1 := Lib.hid hb; have c4 := hr.d8.2.2.2.2.1; clear hr hb hz))
  obtain ⟨EV, hEV⟩ : ∃ EV : Bool, (decide (0 < n) && decide (nn0.tmod 2 = 0)) = EV := ⟨_, rfl⟩
  have HEV := Lib.hid hEV
  clear hEV
  go_cut [34] from 23 to 33 (fun v wx => v = .bool EV ∧ wx = w1)
  case first =>
    clear c4
    obtain ⟨c0, c1, c2, c3, c4, c5, c6, c7⟩ := R1.out.d8
    have cq : w1.cell? ⟨q, 0, none⟩ = some (.slice a n c) := (B1.out.cell (p := ⟨q, 0, none⟩) NQ.out).trans QA.out
    by_cases hn0 : 0 < n
    · have g0 : (0 : Int) < (n : Int) := by omega
      by_cases ht : nn0.tmod 2 = 0
      · have ge : (nn0.tmod 2 == 0) = true := by rw [ht]; rfl
        have HX := Lib.hid (show EV = true by rw [← HEV.out]; simp [hn0, ht])
        clear c0 c2 c3 c4 c5 c6 c7
        go_wp2_with fail
        go_meet
        case rel => exact ⟨by rw [HX.out], rfl⟩
      · have ge : (nn0.tmod 2 == 0) = false := by rw [beq_eq_false_iff_ne]; exact ht
        have HX := Lib.hid (show EV = false by rw [← HEV.out]; simp [ht])
        clear c0 c2 c3 c4 c5 c6 c7 ht
        go_wp2_with fail
        go_meet
        case rel => exact ⟨by rw [HX.out], rfl⟩
    · have g0 : ¬ (0 : Int) < (n : Int) := by omega
      have HX := Lib.hid (show EV = false by rw [← HEV.out]; simp [hn0])
      clear c0 c1 c2 c3 c4 c5 c6 c7
      go_wp2_with fail
      go_meet
      case rel => exact ⟨by rw [HX.out], rfl⟩
  case rest =>
  obtain ⟨rfl, rfl⟩ := hcut
  obtain ⟨w1, rfl⟩ : ∃ x : World, x = wc := ⟨_, rfl⟩
  go_upto_if 34 with fail
  go_cut [7] from 35 to 52 (fun v wx => v = .string sm ∧ Hid (Below w1.heap.size w1 wx))
  case first =>
    clear c4
    cases EV
    · have HE := Lib.hid (show s = sm by
        have h1 := HEV.out
        rw [← HSM.out]; unfold sumK
        rw [if_neg]
        rintro ⟨e1, e2⟩
        rw [HNL.out] at e1
        have e3 : nn0.tmod 2 = 0 := Classical.byContradiction fun hne => tmod2' hne e2
        simp [e1, e3] at h1)
      go_wp2_with fail
      go_meet
      case rel => exact ⟨by rw [HE.out], Lib.hid (Below.refl _ _)⟩
    · have hev := HEV.out
      simp only [Bool.and_eq_true, decide_eq_true_eq] at hev
      obtain ⟨hn0, ht⟩ := hev
      obtain ⟨c0, c1, c2, c3, c4, c5, c6, c7⟩ := R1.out.d8
      have cq : w1.cell? ⟨q, 0, none⟩ = some (.slice a n c) := (B1.out.cell (p := ⟨q, 0, none⟩) NQ.out).trans QA.out
      have g0 : (0 : Int) < (n : Int) := by omega
      have hUp := wrap_u64_bd at0
      obtain ⟨U, hU⟩ : ∃ U, IntKind.u64.wrap at0 = U := ⟨_, rfl⟩
      rw [hU] at hUp
      obtain ⟨k, hk⟩ : ∃ k : Nat, U % (n : Int) = k := ⟨(U % (n : Int)).toNat, by have := Int.emod_nonneg U (show (n : Int) ≠ 0 by omega); omega⟩
      have hkn : k < n := by have := Int.emod_lt_of_pos U g0; omega
      obtain ⟨b0, off, y, rfl, hy, hcell, -⟩ := HXL.out.ls.at fiOk (Below.refl _ _) k hkn
      have HSY := Lib.hid (show y.f.s = sm by
        rw [← HSM.out]
        unfold sumK
        rw [HNL.out, if_pos ⟨hn0, tmod2 ht⟩, hU, hk, show (k : Int).toNat = k from rfl, ← HYL.out, List.getElem?_map, hy]
        rfl)
      have cy0 := hcell 0 _ rfl
      have LB := Lib.hid (show b0 < w.heap.size from lt_of_cell cy0)
      have CY := Lib.hid (show w.cell? ⟨b0, off + k * 4, none⟩ = some (.string y.f.s) from cy0)
      rw [HSY.out] at CY
      have hwn : IntKind.u64.wrap (n : Int) = (n : Int) := by rw [IntKind.wrap_u64]; omega
      have hrm : U.tmod (n : Int) = (k : Int) := by rw [Int.tmod_eq_emod_of_nonneg hUp.1]; exact hk
      have hwk : IntKind.i64.wrap (k : Int) = (k : Int) := by rw [IntKind.wrap_i64]; omega
      have hwk2 : IntKind.u64.wrap (k : Int) = (k : Int) := by rw [IntKind.wrap_u64]; omega
      have g1 : (0 : Int) ≤ (k : Int) := by omega
      have g2 : (k : Int) < (n : Int) := by omega
      have gn0 : ((n : Int) == 0) = false := by rw [beq_eq_false_iff_ne]; omega
      have cy1 := (B1.out.cell (p := ⟨b0, off + k * 4, none⟩) LB.out).trans CY.out
      clear c0 c1 c3 c4 c5 c6 c7 hy hcell cy0 hk hUp ht
      have gnn : ¬ n = 0 := by omega
      have C2 := Lib.hid c2
      have Q1 := Lib.hid cq
      have CY1 := Lib.hid cy1
      have NQ1 := Lib.hid (show q < w1.heap.size from Nat.lt_of_lt_of_le NQ.out B1.out.size)
      have LB1 := Lib.hid (show b0 < w1.heap.size from Nat.lt_of_lt_of_le LB.out B1.out.size)
      clear c2 cq cy1
      go_wp2_with fail
      refine region_h (fun v => Below w1.heap.size w1 v) (by kernel_rfl) (by kernel_rfl) (Below.refl _ _).drew ?_
      obtain ⟨d0, hd0⟩ : ∃ wd, w1.drew = wd := ⟨_, rfl⟩
      have J0 : Hid (Below w1.heap.size w1 d0) := Lib.hid (by rw [← hd0]; exact (Below.refl _ _).drew)
      rw [hd0]
      clear hd0
      (refine h_read 0 rfl (by kernel_rfl) (by kernel_rfl) (h_free rfl) ?_ ?_ ?_; rotate_left; (focus (intro v hv; go_simp; rfl)); go_simp)
      (refine h_read 1 rfl (by kernel_rfl) (by kernel_rfl) (h_free rfl) ?_ ?_ ?_; rotate_left; (focus (intro v hv; go_simp; rfl)); go_simp)
      (refine h_read 2 rfl (by kernel_rfl) (by kernel_rfl) (h_free rfl) ?_ ?_ ?_; rotate_left; (focus (intro v hv; go_simp; rfl)); go_simp)
      (refine h_read 3 rfl (by kernel_rfl) (by kernel_rfl) (h_free rfl) ?_ ?_ ?_; rotate_left; (focus (intro v hv; have q0 := (hv.cell (p := ⟨q, 0, none⟩) NQ1.out).trans Q1.out; have e2 := (hv.cell (p := ⟨w.heap.size, 2, none⟩) R1.out.lt).trans C2.out; have y0 := (hv.cell (p := ⟨b0, off + k * 4, none⟩) LB1.out).trans CY1.out; go_simp; rfl)); go_simp)
      (refine h_read 4 rfl (by kernel_rfl) (by kernel_rfl) (h_free rfl) ?_ ?_ ?_; rotate_left; (focus (intro v hv; go_simp; rfl)); go_simp)
      (refine h_read 5 rfl (by kernel_rfl) (by kernel_rfl) (h_free rfl) ?_ ?_ ?_; rotate_left; (focus (intro v hv; have q0 := (hv.cell (p := ⟨q, 0, none⟩) NQ1.out).trans Q1.out; have e2 := (hv.cell (p := ⟨w.heap.size, 2, none⟩) R1.out.lt).trans C2.out; have y0 := (hv.cell (p := ⟨b0, off + k * 4, none⟩) LB1.out).trans CY1.out; go_simp; rfl)); go_simp)
      (refine h_read 6 rfl (by kernel_rfl) (by kernel_rfl) (h_free rfl) ?_ ?_ ?_; rotate_left; (focus (intro v hv; have q0 := (hv.cell (p := ⟨q, 0, none⟩) NQ1.out).trans Q1.out; have e2 := (hv.cell (p := ⟨w.heap.size, 2, none⟩) R1.out.lt).trans C2.out; have y0 := (hv.cell (p := ⟨b0, off + k * 4, none⟩) LB1.out).trans CY1.out; go_simp; rfl)); go_simp)
      (refine h_read 7 rfl (by kernel_rfl) (by kernel_rfl) (h_free rfl) ?_ ?_ ?_; rotate_left; (focus (intro v hv; go_simp; rfl)); go_simp)
      (refine h_read 8 rfl (by kernel_rfl) (by kernel_rfl) (h_free rfl) ?_ ?_ ?_; rotate_left; (focus (intro v hv; go_simp; rfl)); go_simp)
      (refine h_read 9 rfl (by kernel_rfl) (by kernel_rfl) (h_free rfl) ?_ ?_ ?_; rotate_left; (focus (intro v hv; go_simp; rfl)); go_simp)
      (refine h_read 10 rfl (by kernel_rfl) (by kernel_rfl) (h_free rfl) ?_ ?_ ?_; rotate_left; (focus (intro v hv; have q0 := (hv.cell (p := ⟨q, 0, none⟩) NQ1.out).trans Q1.out; have e2 := (hv.cell (p := ⟨w.heap.size, 2, none⟩) R1.out.lt).trans C2.out; have y0 := (hv.cell (p := ⟨b0, off + k * 4, none⟩) LB1.out).trans CY1.out; go_simp; rfl)); go_simp)
      (refine h_read 11 rfl (by kernel_rfl) (by kernel_rfl) (h_free rfl) ?_ ?_ ?_; rotate_left; (focus (intro v hv; go_simp; rfl)); go_simp)
      (refine h_read 12 rfl (by kernel_rfl) (by kernel_rfl) (h_free rfl) ?_ ?_ ?_; rotate_left; (focus (intro v hv; have q0 := (hv.cell (p := ⟨q, 0, none⟩) NQ1.out).trans Q1.out; have e2 := (hv.cell (p := ⟨w.heap.size, 2, none⟩) R1.out.lt).trans C2.out; have y0 := (hv.cell (p := ⟨b0, off + k * 4, none⟩) LB1.out).trans CY1.out; go_simp; rfl)); go_simp)
      (refine h_read 13 rfl (by kernel_rfl) (by kernel_rfl) (h_free rfl) ?_ ?_ ?_; rotate_left; (focus (intro v hv; go_simp; rfl)); go_simp)
      (refine h_read 14 rfl (by kernel_rfl) (by kernel_rfl) (h_free rfl) ?_ ?_ ?_; rotate_left; (focus (intro v hv; have q0 := (hv.cell (p := ⟨q, 0, none⟩) NQ1.out).trans Q1.out; have e2 := (hv.cell (p := ⟨w.heap.size, 2, none⟩) R1.out.lt).trans C2.out; have y0 := (hv.cell (p := ⟨b0, off + k * 4, none⟩) LB1.out).trans CY1.out; go_simp; rfl)); go_simp)
      (refine h_read 15 rfl (by kernel_rfl) (by kernel_rfl) (h_free rfl) ?_ ?_ ?_; rotate_left; (focus (intro v hv; go_simp; rfl)); go_simp)
      (refine h_read 16 rfl (by kernel_rfl) (by kernel_rfl) (h_free rfl) ?_ ?_ ?_; rotate_left; (focus (intro v hv; go_simp; rfl)); go_simp)
      (refine h_read 17 rfl (by kernel_rfl) (by kernel_rfl) (h_free rfl) ?_ ?_ ?_; rotate_left; (focus (intro v hv; have q0 := (hv.cell (p := ⟨q, 0, none⟩) NQ1.out).trans Q1.out; have e2 := (hv.cell (p := ⟨w.heap.size, 2, none⟩) R1.out.lt).trans C2.out; have y0 := (hv.cell (p := ⟨b0, off + k * 4, none⟩) LB1.out).trans CY1.out; go_simp; rfl)); go_simp)
      (refine h_read 18 rfl (by kernel_rfl) (by kernel_rfl) (h_free rfl) ?_ ?_ ?_; rotate_left; (focus (intro v hv; go_simp; rfl)); go_simp)
      refine h_done (by kernel_rfl) ?_
      go_wp2_with fail
      go_meet
      case rel => exact ⟨rfl, J0⟩
  case rest =>
    obtain ⟨rfl, BC⟩ := hcut
    have R1 := Lib.hid (R1.out.below BC.out R1.out.lt)
    have B1 := Lib.hid (B1.out.trans (BC.out.mono B1.out.size))
    clear BC
    obtain ⟨w1, rfl⟩ : ∃ x : World, x = wc := ⟨_, rfl⟩
    obtain ⟨g5, hg5⟩ : ∃ g, w.heap.size = g := ⟨_, rfl⟩
    have P1 := Lib.hid (HP.out.mono B1.out)
    have K1 := Lib.hid (HK.out.below B1.out HK.out.pos)
    have I1 := Lib.hid (show Below wI.heap.size wI w1 by rw [HBI.out]; exact HBW.out.trans (B1.out.mono hszb))
    have BW1 := Lib.hid (show Below base w w1 from B1.out.mono hszb)
    have Z1 := Lib.hid (show base ≤ w1.heap.size from Nat.le_trans hszb B1.out.size)
    have ZW := Lib.hid (show w.heap.size ≤ w1.heap.size from B1.out.size)
    have Z5 := Lib.hid R1.out.lt
    have N5S := Lib.hid (show ¬ S g5 from fun e => by have := NS.out g5 e; omega)
    have N5T := Lib.hid (show ¬ T g5 from fun e => by have := NT.out g5 e; omega)
    rw [hg5] at R1 NS NT NQ c4 Z5 ZW ⊢
    clear c4
    obtain ⟨c0, c1, c2, c3, c4, c5, c6, c7⟩ := R1.out.d8
    clear c1 c2 c3 c4 c5 c6 c7
    obtain ⟨GB, GE, hgc⟩ : ∃ GB GE, getC L sm = (GB, GE) := ⟨_, _, rfl⟩
    have hgl : GB.length ≤ 256 := by
      have e1 : GB = (getC L sm).1 := by rw [hgc]
      rw [e1]
      unfold getC
      split
      · simp
      · rename_i f hf
        split
        · exact (HS.out.ok f (List.mem_of_find?_eq_some hf)).b2
        · simp
    obtain ⟨gl, hgl2⟩ : ∃ gl, GB.length = gl := ⟨_, rfl⟩
    have HGL := Lib.hid hgl2
    rw [hgl2] at hgl
    have Q1 := qget P1.out HS.out K1.out sm HSZ.out
    rw [hgc] at Q1
    have HQ1 := Lib.hid Q1
    have HQ2 := Lib.hid (fun w' (hb : Below w1.heap.size w1 w') => by have := xget (P1.out.mono hb) HS.out sm; rw [hgc] at this; exact this)
    obtain ⟨dd, hdd⟩ : ∃ dd, decide (GE = 0) = dd := ⟨_, rfl⟩
    have HQ3 := Lib.hid (fun w' (hb : Below w1.heap.size w1 w') => by have := qhas (P1.out.mono hb) HS.out (K1.out.below hb K1.out.pos) sm HSZ.out; rw [hgc] at this; dsimp only at this; rw [hdd] at this; exact this)
    have HQ4 := Lib.hid (fun w' (hb : Below w1.heap.size w1 w') => by have := xhas (P1.out.mono hb) HS.out sm; rw [hgc] at this; dsimp only at this; rw [hdd] at this; exact this)
    clear Q1 hgc hgl2 hdd
    go_wp2_with (first
      | (go_at_call 19; (with_reducible refine HQ1.out.mono ?_); rintro e w2 ⟨v, rfl, hf, hb⟩; obtain ⟨ga, gc, rfl, hrd⟩ := hf.form' gl HGL.out; have OB := Lib.hid (fun k e => World.ownsRow.lt hf k e); have F2 := Lib.hid hf; have D2 := Lib.hid hb; have V2 := Lib.hid hrd; clear hf hb hrd)
      | (go_at_call 38; (with_reducible refine (HQ2.out _ D2.out).mono ?_); rintro e w3 ⟨v, rfl, hf, hb⟩; obtain ⟨gb, gd, rfl, hrd⟩ := hf.form' gl HGL.out; have D3 := Lib.hid (D2.out.trans (hb.mono D2.out.size)); have F3 := Lib.hid (F2.out.kept hb); have HE := sequal ga gb gl gl gc gd GB GB w3 (V2.out.mono hb) hrd; rw [decide_eq_true rfl] at HE; have HEQ := Lib.hid HE; clear HE hf hb hrd)
      | (go_at_call 25; (with_reducible refine HEQ.out.mono ?_); rintro e w4 ⟨rfl, hqt⟩; have hb := hqt.below w3.heap.size; have D4 := Lib.hid (D3.out.trans (hb.mono D3.out.size)); have F4 := Lib.hid (F3.out.kept hb); clear hb hqt)
      | (go_at_call 21; (with_reducible refine (HQ3.out _ D4.out).mono ?_); rintro e w5 ⟨rfl, hb⟩; have D5 := Lib.hid (D4.out.trans (hb.mono D4.out.size)); have F5 := Lib.hid (F4.out.kept hb); clear hb)
      | (go_at_call 39; (with_reducible refine (HQ4.out _ D5.out).mono ?_); rintro e w6 ⟨rfl, hb⟩; have D6 := Lib.hid (D5.out.trans (hb.mono D5.out.size)); have F6 := Lib.hid (F5.out.kept hb); clear hb))
    go_loopw [159] (fun vi wr => ∃ (j : Nat) (l' : List UInt8), vi = .int .i64 (j : Int) ∧ j ≤ gl ∧ Hid (l'.length = gl) ∧ Hid (Fr wr w1.heap.size (.slice ga gl gc) l') ∧ Hid (Ft (fun k => (Value.slice ga gl gc).ownBlock = some k) w6 wr)) (fun vi _ => gl - (intOf vi).toNat)
    case atStart => exact ⟨0, GB, rfl, Nat.zero_le _, HGL, F6, Lib.hid (Ft.refl _ _)⟩
    case round =>
      obtain ⟨j, l', rfl, hj, HLL, HF, HT⟩ := hrel
      by_cases hjm : j < gl
      · obtain ⟨g, cap, hv, hle, hge, hlt⟩ := HF.out.pos (fun e => by have := HLL.out; rw [e] at this; simp at this; omega)
        rw [HLL.out] at hv
        injection hv with e1 e2 e3
        subst e1 e3
        obtain ⟨x, hx⟩ : ∃ x, l'.getD j 0 = x := ⟨_, rfl⟩
        have HX := Lib.hid hx
        have hc : wr.cell? ⟨g, j, none⟩ = some (.int .u8 (x.toNat : Int)) := by have := HF.out.cellAt j (by rw [HLL.out]; exact hjm) HLL.out.symm; rw [hx] at this; exact this
        have hfz : wr.frozen? ⟨g, j, none⟩ = false := HF.out.frozenAt j HLL.out.symm
        have hw8 := wrap8_succ x
        have j1 : (0 : Int) ≤ (j : Int) := by omega
        have j2 : (j : Int) < (gl : Int) := by omega
        clear hx hle hge hlt e2
        go_wp2_with fail
        go_roundw
        case rel => exact ⟨j + 1, l'.set j (x + 1), by go_num, by omega, Lib.hid (by rw [List.length_set]; exact HLL.out), Lib.hid (HF.out.set j (x + 1) HLL.out.symm), Lib.hid (HT.out.trans (Ft.of_upd (Upd.setCell _ _ _ _) rfl))⟩
        case measure => simp [intOf]; omega
      · obtain rfl : j = gl := by omega
        go_wp2_with fail
        go_ret
        refine ⟨one (vbool (by simp)), ⟨S, T, ?_⟩, BW1.out.trans ((D6.out.mono Z1.out).trans (HT.out.below (by have := D6.out.size; have := Z1.out; omega) (fun k e => by have h2 := (OB.out k e).1; have h3 := Z1.out; omega)))⟩
        rw [← HL2.out]
        exact (P1.out.mono D6.out).ft HT.out (fun k e hs => by have h2 := OB.out k e; have := NS.out k hs; have := ZW.out; omega) (fun k e hs => by have h2 := OB.out k e; have := NT.out k hs; have := ZW.out; omega)
set_option maxRecDepth 100000 in
set_option maxHeartbeats 32000000 in
theorem do28_5 (d : DoK) (room : Int) (L : List Fi) (wI w : World) (base p q T0 : Nat) (S T : Nat → Prop) (h : P2 w base room p q L L S T) (hs : StOk T0 room L) (hT : T0 ≤ 890) (h0 : 0 ≤ room) (hK : Ks w) (hbI : wI.heap.size = base) (hbw : Below base wI w) (hp : 0 < base) (hd : d.fit wI) (hfw : d.few = true) (hop : d.op = 5) :
    Calls Tryz.prog 10 #[.pointer (some ⟨p, 0, none⟩), .pointer (some ⟨q, 0, none⟩), .agg d.cells.toArray] w fun e w' => e = .returned (.bool true) ∧ (∃ S' T', P2 w' base room p q (stepK room L d) (stepK room L d) S' T') ∧ Below base w w' := by
  have HS := Lib.hid hs
  have HP := Lib.hid h
  have HK := Lib.hid hK
  have HBI := Lib.hid hbI
  have HBW := Lib.hid hbw
  obtain ⟨a, n, c, Y, hY, hx⟩ := h.x
  have HXL := Lib.hid hx
  have hnL : L.length = n := by rw [← hY, List.length_map]; exact hx.ls.hlen
  have HNL := Lib.hid hnL
  have hn5 : n ≤ 524288 := by have := hs.len; omega
  have HYL := Lib.hid hY
  have QA := Lib.hid hx.rp.k2.1
  have NQ := Lib.hid (show q < w.heap.size from hx.rp.lt)
  have hszb : base ≤ w.heap.size := by rw [← hbI]; rw [← hbI] at hbw; exact hbw.size
  obtain ⟨sm, hsm⟩ : ∃ sm, sumK L d.n d.at' d.s = sm := ⟨_, rfl⟩
  have HSM := Lib.hid hsm
  have hsz : sm.size ≤ maxLen := by
    rw [← hsm]
    unfold sumK
    split
    · split
      · rename_i f hf
        have := (hs.ok f (List.mem_of_getElem? hf)).s
        unfold maxLen; omega
      · exact hd.s
    · exact hd.s
  have HSZ := Lib.hid hsz
  obtain ⟨L2, hL2⟩ : ∃ L2, stepK room L d = L2 := ⟨_, rfl⟩
  rw [hL2]
  have hfew := hfw
  unfold DoK.few at hfew
  simp only [Bool.and_eq_true, decide_eq_true_eq] at hfew
  obtain ⟨f1, f2, f3, f4, f5⟩ := hfew
  have NS := Lib.hid (fun k (hk : S k) => (show k < w.heap.size from h.slt k hk))
  have NT := Lib.hid (fun k (hk : T k) => (show k < w.heap.size from h.tlt k hk))
  obtain ⟨u1, u2⟩ := hd.n64
  obtain ⟨u3, u4⟩ := hd.a64
  clear h hs hK hbw hx hY hnL hsm hsz hfw hbI
  obtain ⟨op, nn0, at0, ba, bn, bc, b, s, ka, kn, kc, ks, na, nn, nc, ns, la, ln, lc, ls⟩ := d
  dsimp only at f1 f2 f3 f4 f5 u1 u2 u3 u4 HSM hL2 hop
  have RB := Lib.hid (show Rd wI ba bn bc b from hd.rb)
  have RK := Lib.hid (show Ls intE wI ka kn kc ks from hd.rk)
  have RN := Lib.hid (show Ls strE wI na nn nc ns from hd.rn)
  have RL := Lib.hid (show Ls intE wI la ln lc ls from hd.rl)
  have HN64 := Lib.hid (show SI64 nn0 from hd.n64)
  clear hd
  have o0 : (op == 0) = false := by rw [hop]; rfl
  have o1 : (op == 1) = false := by rw [hop]; rfl
  have o2 : (op == 2) = false := by rw [hop]; rfl
  have o3 : (op == 3) = false := by rw [hop]; rfl
  have o4 : (op == 4) = false := by rw [hop]; rfl
  have o5 : (op == 5) = true := by rw [hop]; rfl
  have HL2 := Lib.hid (show syncC L = L2 by rw [← hL2]; unfold stepK; simp [hop])
  clear hL2 hop
  go_enter Tryz.func10, Tryz.ntmps10
  go_upto_region 2 with (first
    | ((with_reducible refine box_row (o := ⟨some 5, _, _, _, _, _⟩) rfl _ _ rfl (doC op nn0 at0 ba bn bc s ka kn kc na nn nc la ln lc) rfl ?_); intro w1 hr hb hz; have R1 := Lib.hid hr; have B1 := Lib.hid hb; have c4 := hr.d8.2.2.2.2.1; clear hr hb hz))
  obtain ⟨EV, hEV⟩ : ∃ EV : Bool, (decide (0 < n) && decide (nn0.tmod 2 = 0)) = EV := ⟨_, rfl⟩
  have HEV := Lib.hid hEV
  clear hEV
  go_cut [34] from 23 to 33 (fun v wx => v = .bool EV ∧ wx = w1)
  case first =>
    clear c4
    obtain ⟨c0, c1, c2, c3, c4, c5, c6, c7⟩ := R1.out.d8
    have cq : w1.cell? ⟨q, 0, none⟩ = some (.slice a n c) := (B1.out.cell (p := ⟨q, 0, none⟩) NQ.out).trans QA.out
    by_cases hn0 : 0 < n
    · have g0 : (0 : Int) < (n : Int) := by omega
      by_cases ht : nn0.tmod 2 = 0
      · have ge : (nn0.tmod 2 == 0) = true := by rw [ht]; rfl
        have HX := Lib.hid (show EV = true by rw [← HEV.out]; simp [hn0, ht])
        clear c0 c2 c3 c4 c5 c6 c7
        go_wp2_with fail
        go_meet
        case rel => exact ⟨by rw [HX.out], rfl⟩
      · have ge : (nn0.tmod 2 == 0) = false := by rw [beq_eq_false_iff_ne]; exact ht
        have HX := Lib.hid (show EV = false by rw [← HEV.out]; simp [ht])
        clear c0 c2 c3 c4 c5 c6 c7 ht
        go_wp2_with fail
        go_meet
        case rel => exact ⟨by rw [HX.out], rfl⟩
    · have g0 : ¬ (0 : Int) < (n : Int) := by omega
      have HX := Lib.hid (show EV = false by rw [← HEV.out]; simp [hn0])
      clear c0 c1 c2 c3 c4 c5 c6 c7
      go_wp2_with fail
      go_meet
      case rel => exact ⟨by rw [HX.out], rfl⟩
  case rest =>
  obtain ⟨rfl, rfl⟩ := hcut
  obtain ⟨w1, rfl⟩ : ∃ x : World, x = wc := ⟨_, rfl⟩
  go_upto_if 34 with fail
  go_cut [7] from 35 to 52 (fun v wx => v = .string sm ∧ Hid (Below w1.heap.size w1 wx))
  case first =>
    clear c4
    cases EV
    · have HE := Lib.hid (show s = sm by
        have h1 := HEV.out
        rw [← HSM.out]; unfold sumK
        rw [if_neg]
        rintro ⟨e1, e2⟩
        rw [HNL.out] at e1
        have e3 : nn0.tmod 2 = 0 := Classical.byContradiction fun hne => tmod2' hne e2
        simp [e1, e3] at h1)
      go_wp2_with fail
      go_meet
      case rel => exact ⟨by rw [HE.out], Lib.hid (Below.refl _ _)⟩
    · have hev := HEV.out
      simp only [Bool.and_eq_true, decide_eq_true_eq] at hev
      obtain ⟨hn0, ht⟩ := hev
      obtain ⟨c0, c1, c2, c3, c4, c5, c6, c7⟩ := R1.out.d8
      have cq : w1.cell? ⟨q, 0, none⟩ = some (.slice a n c) := (B1.out.cell (p := ⟨q, 0, none⟩) NQ.out).trans QA.out
      have g0 : (0 : Int) < (n : Int) := by omega
      have hUp := wrap_u64_bd at0
      obtain ⟨U, hU⟩ : ∃ U, IntKind.u64.wrap at0 = U := ⟨_, rfl⟩
      rw [hU] at hUp
      obtain ⟨k, hk⟩ : ∃ k : Nat, U % (n : Int) = k := ⟨(U % (n : Int)).toNat, by have := Int.emod_nonneg U (show (n : Int) ≠ 0 by omega); omega⟩
      have hkn : k < n := by have := Int.emod_lt_of_pos U g0; omega
      obtain ⟨b0, off, y, rfl, hy, hcell, -⟩ := HXL.out.ls.at fiOk (Below.refl _ _) k hkn
      have HSY := Lib.hid (show y.f.s = sm by
        rw [← HSM.out]
        unfold sumK
        rw [HNL.out, if_pos ⟨hn0, tmod2 ht⟩, hU, hk, show (k : Int).toNat = k from rfl, ← HYL.out, List.getElem?_map, hy]
        rfl)
      have cy0 := hcell 0 _ rfl
      have LB := Lib.hid (show b0 < w.heap.size from lt_of_cell cy0)
      have CY := Lib.hid (show w.cell? ⟨b0, off + k * 4, none⟩ = some (.string y.f.s) from cy0)
      rw [HSY.out] at CY
      have hwn : IntKind.u64.wrap (n : Int) = (n : Int) := by rw [IntKind.wrap_u64]; omega
      have hrm : U.tmod (n : Int) = (k : Int) := by rw [Int.tmod_eq_emod_of_nonneg hUp.1]; exact hk
      have hwk : IntKind.i64.wrap (k : Int) = (k : Int) := by rw [IntKind.wrap_i64]; omega
      have hwk2 : IntKind.u64.wrap (k : Int) = (k : Int) := by rw [IntKind.wrap_u64]; omega
      have g1 : (0 : Int) ≤ (k : Int) := by omega
      have g2 : (k : Int) < (n : Int) := by omega
      have gn0 : ((n : Int) == 0) = false := by rw [beq_eq_false_iff_ne]; omega
      have cy1 := (B1.out.cell (p := ⟨b0, off + k * 4, none⟩) LB.out).trans CY.out
      clear c0 c1 c3 c4 c5 c6 c7 hy hcell cy0 hk hUp ht
      have gnn : ¬ n = 0 := by omega
      have C2 := Lib.hid c2
      have Q1 := Lib.hid cq
      have CY1 := Lib.hid cy1
      have NQ1 := Lib.hid (show q < w1.heap.size from Nat.lt_of_lt_of_le NQ.out B1.out.size)
      have LB1 := Lib.hid (show b0 < w1.heap.size from Nat.lt_of_lt_of_le LB.out B1.out.size)
      clear c2 cq cy1
      go_wp2_with fail
      refine region_h (fun v => Below w1.heap.size w1 v) (by kernel_rfl) (by kernel_rfl) (Below.refl _ _).drew ?_
      obtain ⟨d0, hd0⟩ : ∃ wd, w1.drew = wd := ⟨_, rfl⟩
      have J0 : Hid (Below w1.heap.size w1 d0) := Lib.hid (by rw [← hd0]; exact (Below.refl _ _).drew)
      rw [hd0]
      clear hd0
      (refine h_read 0 rfl (by kernel_rfl) (by kernel_rfl) (h_free rfl) ?_ ?_ ?_; rotate_left; (focus (intro v hv; go_simp; rfl)); go_simp)
      (refine h_read 1 rfl (by kernel_rfl) (by kernel_rfl) (h_free rfl) ?_ ?_ ?_; rotate_left; (focus (intro v hv; go_simp; rfl)); go_simp)
      (refine h_read 2 rfl (by kernel_rfl) (by kernel_rfl) (h_free rfl) ?_ ?_ ?_; rotate_left; (focus (intro v hv; go_simp; rfl)); go_simp)
      (refine h_read 3 rfl (by kernel_rfl) (by kernel_rfl) (h_free rfl) ?_ ?_ ?_; rotate_left; (focus (intro v hv; have q0 := (hv.cell (p := ⟨q, 0, none⟩) NQ1.out).trans Q1.out; have e2 := (hv.cell (p := ⟨w.heap.size, 2, none⟩) R1.out.lt).trans C2.out; have y0 := (hv.cell (p := ⟨b0, off + k * 4, none⟩) LB1.out).trans CY1.out; go_simp; rfl)); go_simp)
      (refine h_read 4 rfl (by kernel_rfl) (by kernel_rfl) (h_free rfl) ?_ ?_ ?_; rotate_left; (focus (intro v hv; go_simp; rfl)); go_simp)
      (refine h_read 5 rfl (by kernel_rfl) (by kernel_rfl) (h_free rfl) ?_ ?_ ?_; rotate_left; (focus (intro v hv; have q0 := (hv.cell (p := ⟨q, 0, none⟩) NQ1.out).trans Q1.out; have e2 := (hv.cell (p := ⟨w.heap.size, 2, none⟩) R1.out.lt).trans C2.out; have y0 := (hv.cell (p := ⟨b0, off + k * 4, none⟩) LB1.out).trans CY1.out; go_simp; rfl)); go_simp)
      (refine h_read 6 rfl (by kernel_rfl) (by kernel_rfl) (h_free rfl) ?_ ?_ ?_; rotate_left; (focus (intro v hv; have q0 := (hv.cell (p := ⟨q, 0, none⟩) NQ1.out).trans Q1.out; have e2 := (hv.cell (p := ⟨w.heap.size, 2, none⟩) R1.out.lt).trans C2.out; have y0 := (hv.cell (p := ⟨b0, off + k * 4, none⟩) LB1.out).trans CY1.out; go_simp; rfl)); go_simp)
      (refine h_read 7 rfl (by kernel_rfl) (by kernel_rfl) (h_free rfl) ?_ ?_ ?_; rotate_left; (focus (intro v hv; go_simp; rfl)); go_simp)
      (refine h_read 8 rfl (by kernel_rfl) (by kernel_rfl) (h_free rfl) ?_ ?_ ?_; rotate_left; (focus (intro v hv; go_simp; rfl)); go_simp)
      (refine h_read 9 rfl (by kernel_rfl) (by kernel_rfl) (h_free rfl) ?_ ?_ ?_; rotate_left; (focus (intro v hv; go_simp; rfl)); go_simp)
      (refine h_read 10 rfl (by kernel_rfl) (by kernel_rfl) (h_free rfl) ?_ ?_ ?_; rotate_left; (focus (intro v hv; have q0 := (hv.cell (p := ⟨q, 0, none⟩) NQ1.out).trans Q1.out; have e2 := (hv.cell (p := ⟨w.heap.size, 2, none⟩) R1.out.lt).trans C2.out; have y0 := (hv.cell (p := ⟨b0, off + k * 4, none⟩) LB1.out).trans CY1.out; go_simp; rfl)); go_simp)
      (refine h_read 11 rfl (by kernel_rfl) (by kernel_rfl) (h_free rfl) ?_ ?_ ?_; rotate_left; (focus (intro v hv; go_simp; rfl)); go_simp)
      (refine h_read 12 rfl (by kernel_rfl) (by kernel_rfl) (h_free rfl) ?_ ?_ ?_; rotate_left; (focus (intro v hv; have q0 := (hv.cell (p := ⟨q, 0, none⟩) NQ1.out).trans Q1.out; have e2 := (hv.cell (p := ⟨w.heap.size, 2, none⟩) R1.out.lt).trans C2.out; have y0 := (hv.cell (p := ⟨b0, off + k * 4, none⟩) LB1.out).trans CY1.out; go_simp; rfl)); go_simp)
      (refine h_read 13 rfl (by kernel_rfl) (by kernel_rfl) (h_free rfl) ?_ ?_ ?_; rotate_left; (focus (intro v hv; go_simp; rfl)); go_simp)
      (refine h_read 14 rfl (by kernel_rfl) (by kernel_rfl) (h_free rfl) ?_ ?_ ?_; rotate_left; (focus (intro v hv; have q0 := (hv.cell (p := ⟨q, 0, none⟩) NQ1.out).trans Q1.out; have e2 := (hv.cell (p := ⟨w.heap.size, 2, none⟩) R1.out.lt).trans C2.out; have y0 := (hv.cell (p := ⟨b0, off + k * 4, none⟩) LB1.out).trans CY1.out; go_simp; rfl)); go_simp)
      (refine h_read 15 rfl (by kernel_rfl) (by kernel_rfl) (h_free rfl) ?_ ?_ ?_; rotate_left; (focus (intro v hv; go_simp; rfl)); go_simp)
      (refine h_read 16 rfl (by kernel_rfl) (by kernel_rfl) (h_free rfl) ?_ ?_ ?_; rotate_left; (focus (intro v hv; go_simp; rfl)); go_simp)
      (refine h_read 17 rfl (by kernel_rfl) (by kernel_rfl) (h_free rfl) ?_ ?_ ?_; rotate_left; (focus (intro v hv; have q0 := (hv.cell (p := ⟨q, 0, none⟩) NQ1.out).trans Q1.out; have e2 := (hv.cell (p := ⟨w.heap.size, 2, none⟩) R1.out.lt).trans C2.out; have y0 := (hv.cell (p := ⟨b0, off + k * 4, none⟩) LB1.out).trans CY1.out; go_simp; rfl)); go_simp)
      (refine h_read 18 rfl (by kernel_rfl) (by kernel_rfl) (h_free rfl) ?_ ?_ ?_; rotate_left; (focus (intro v hv; go_simp; rfl)); go_simp)
      refine h_done (by kernel_rfl) ?_
      go_wp2_with fail
      go_meet
      case rel => exact ⟨rfl, J0⟩
  case rest =>
    obtain ⟨rfl, BC⟩ := hcut
    have R1 := Lib.hid (R1.out.below BC.out R1.out.lt)
    have B1 := Lib.hid (B1.out.trans (BC.out.mono B1.out.size))
    clear BC
    obtain ⟨w1, rfl⟩ : ∃ x : World, x = wc := ⟨_, rfl⟩
    obtain ⟨g5, hg5⟩ : ∃ g, w.heap.size = g := ⟨_, rfl⟩
    have P1 := Lib.hid (HP.out.mono B1.out)
    have K1 := Lib.hid (HK.out.below B1.out HK.out.pos)
    have I1 := Lib.hid (show Below wI.heap.size wI w1 by rw [HBI.out]; exact HBW.out.trans (B1.out.mono hszb))
    have BW1 := Lib.hid (show Below base w w1 from B1.out.mono hszb)
    have Z1 := Lib.hid (show base ≤ w1.heap.size from Nat.le_trans hszb B1.out.size)
    have ZW := Lib.hid (show w.heap.size ≤ w1.heap.size from B1.out.size)
    have Z5 := Lib.hid R1.out.lt
    have N5S := Lib.hid (show ¬ S g5 from fun e => by have := NS.out g5 e; omega)
    have N5T := Lib.hid (show ¬ T g5 from fun e => by have := NT.out g5 e; omega)
    rw [hg5] at R1 NS NT NQ c4 Z5 ZW ⊢
    clear c4
    obtain ⟨c0, c1, c2, c3, c4, c5, c6, c7⟩ := R1.out.d8
    clear c1 c2 c3 c4 c5 c6 c7
    have Q := Lib.hid (qsync P1.out Z1.out HS.out)
    rw [HL2.out] at Q
    go_wp2_with (first
      | (go_at_call 27; (with_reducible refine Q.out.mono ?_); rintro e w2 ⟨rfl, hst⟩; obtain ⟨⟨S', hp2, hS'⟩, hft⟩ := hst; have P2' := Lib.hid hp2; have Z2 := Lib.hid (Nat.le_trans Z1.out hft.size); have F2 := Lib.hid (hft.below Z1.out P1.out.sb); have QX := Lib.hid (xsync hp2 Z2.out HS.out); rw [HL2.out] at QX; clear hp2 hS' hft)
      | (go_at_call 40; (with_reducible refine QX.out.mono ?_); rintro e w3 ⟨rfl, hst⟩; obtain ⟨⟨T', hp3, hT'⟩, hft⟩ := hst; have P3 := Lib.hid hp3; have F3 := Lib.hid (hft.below Z2.out P2'.out.tb); clear hp3 hT' hft))
    go_ret
    exact ⟨one (vbool (by simp)), ⟨S', T', P3.out⟩, BW1.out.trans (F2.out.trans F3.out)⟩
set_option maxRecDepth 100000 in
set_option maxHeartbeats 32000000 in
theorem do28_6 (d : DoK) (room : Int) (L : List Fi) (wI w : World) (base p q T0 : Nat) (S T : Nat → Prop) (h : P2 w base room p q L L S T) (hs : StOk T0 room L) (hT : T0 ≤ 890) (h0 : 0 ≤ room) (hK : Ks w) (hbI : wI.heap.size = base) (hbw : Below base wI w) (hp : 0 < base) (hd : d.fit wI) (hfw : d.few = true) (hop : d.op = 6) :
    Calls Tryz.prog 10 #[.pointer (some ⟨p, 0, none⟩), .pointer (some ⟨q, 0, none⟩), .agg d.cells.toArray] w fun e w' => e = .returned (.bool true) ∧ (∃ S' T', P2 w' base room p q (stepK room L d) (stepK room L d) S' T') ∧ Below base w w' := by
  have HS := Lib.hid hs
  have HP := Lib.hid h
  have HK := Lib.hid hK
  have HBI := Lib.hid hbI
  have HBW := Lib.hid hbw
  obtain ⟨a, n, c, Y, hY, hx⟩ := h.x
  have HXL := Lib.hid hx
  have hnL : L.length = n := by rw [← hY, List.length_map]; exact hx.ls.hlen
  have HNL := Lib.hid hnL
  have hn5 : n ≤ 524288 := by have := hs.len; omega
  have HYL := Lib.hid hY
  have QA := Lib.hid hx.rp.k2.1
  have NQ := Lib.hid (show q < w.heap.size from hx.rp.lt)
  have hszb : base ≤ w.heap.size := by rw [← hbI]; rw [← hbI] at hbw; exact hbw.size
  obtain ⟨sm, hsm⟩ : ∃ sm, sumK L d.n d.at' d.s = sm := ⟨_, rfl⟩
  have HSM := Lib.hid hsm
  have hsz : sm.size ≤ maxLen := by
    rw [← hsm]
    unfold sumK
    split
    · split
      · rename_i f hf
        have := (hs.ok f (List.mem_of_getElem? hf)).s
        unfold maxLen; omega
      · exact hd.s
    · exact hd.s
  have HSZ := Lib.hid hsz
  obtain ⟨L2, hL2⟩ : ∃ L2, stepK room L d = L2 := ⟨_, rfl⟩
  rw [hL2]
  have hfew := hfw
  unfold DoK.few at hfew
  simp only [Bool.and_eq_true, decide_eq_true_eq] at hfew
  obtain ⟨f1, f2, f3, f4, f5⟩ := hfew
  have NS := Lib.hid (fun k (hk : S k) => (show k < w.heap.size from h.slt k hk))
  have NT := Lib.hid (fun k (hk : T k) => (show k < w.heap.size from h.tlt k hk))
  obtain ⟨u1, u2⟩ := hd.n64
  obtain ⟨u3, u4⟩ := hd.a64
  clear h hs hK hbw hx hY hnL hsm hsz hfw hbI
  obtain ⟨op, nn0, at0, ba, bn, bc, b, s, ka, kn, kc, ks, na, nn, nc, ns, la, ln, lc, ls⟩ := d
  dsimp only at f1 f2 f3 f4 f5 u1 u2 u3 u4 HSM hL2 hop
  have RB := Lib.hid (show Rd wI ba bn bc b from hd.rb)
  have RK := Lib.hid (show Ls intE wI ka kn kc ks from hd.rk)
  have RN := Lib.hid (show Ls strE wI na nn nc ns from hd.rn)
  have RL := Lib.hid (show Ls intE wI la ln lc ls from hd.rl)
  have HN64 := Lib.hid (show SI64 nn0 from hd.n64)
  clear hd
  have o0 : (op == 0) = false := by rw [hop]; rfl
  have o1 : (op == 1) = false := by rw [hop]; rfl
  have o2 : (op == 2) = false := by rw [hop]; rfl
  have o3 : (op == 3) = false := by rw [hop]; rfl
  have o4 : (op == 4) = false := by rw [hop]; rfl
  have o5 : (op == 5) = false := by rw [hop]; rfl
  have o6 : (op == 6) = true := by rw [hop]; rfl
  have HL2 := Lib.hid (show crashC ks 0 L = L2 by rw [← hL2]; unfold stepK; simp [hop])
  clear hL2 hop
  go_enter Tryz.func10, Tryz.ntmps10
  go_upto_region 2 with (first
    | ((with_reducible refine box_row (o := ⟨some 5, _, _, _, _, _⟩) rfl _ _ rfl (doC op nn0 at0 ba bn bc s ka kn kc na nn nc la ln lc) rfl ?_); intro w1 hr hb hz; have R1 := Lib.hid hr; have B1 := Lib.hid hb; have c4 := hr.d8.2.2.2.2.1; clear hr hb hz))
  obtain ⟨EV, hEV⟩ : ∃ EV : Bool, (decide (0 < n) && decide (nn0.tmod 2 = 0)) = EV := ⟨_, rfl⟩
  have HEV := Lib.hid hEV
  clear hEV
  go_cut [34] from 23 to 33 (fun v wx => v = .bool EV ∧ wx = w1)
  case first =>
    clear c4
    obtain ⟨c0, c1, c2, c3, c4, c5, c6, c7⟩ := R1.out.d8
    have cq : w1.cell? ⟨q, 0, none⟩ = some (.slice a n c) := (B1.out.cell (p := ⟨q, 0, none⟩) NQ.out).trans QA.out
    by_cases hn0 : 0 < n
    · have g0 : (0 : Int) < (n : Int) := by omega
      by_cases ht : nn0.tmod 2 = 0
      · have ge : (nn0.tmod 2 == 0) = true := by rw [ht]; rfl
        have HX := Lib.hid (show EV = true by rw [← HEV.out]; simp [hn0, ht])
        clear c0 c2 c3 c4 c5 c6 c7
        go_wp2_with fail
        go_meet
        case rel => exact ⟨by rw [HX.out], rfl⟩
      · have ge : (nn0.tmod 2 == 0) = false := by rw [beq_eq_false_iff_ne]; exact ht
        have HX := Lib.hid (show EV = false by rw [← HEV.out]; simp [ht])
        clear c0 c2 c3 c4 c5 c6 c7 ht
        go_wp2_with fail
        go_meet
        case rel => exact ⟨by rw [HX.out], rfl⟩
    · have g0 : ¬ (0 : Int) < (n : Int) := by omega
      have HX := Lib.hid (show EV = false by rw [← HEV.out]; simp [hn0])
      clear c0 c1 c2 c3 c4 c5 c6 c7
      go_wp2_with fail
      go_meet
      case rel => exact ⟨by rw [HX.out], rfl⟩
  case rest =>
  obtain ⟨rfl, rfl⟩ := hcut
  obtain ⟨w1, rfl⟩ : ∃ x : World, x = wc := ⟨_, rfl⟩
  go_upto_if 34 with fail
  go_cut [7] from 35 to 52 (fun v wx => v = .string sm ∧ Hid (Below w1.heap.size w1 wx))
  case first =>
    clear c4
    cases EV
    · have HE := Lib.hid (show s = sm by
        have h1 := HEV.out
        rw [← HSM.out]; unfold sumK
        rw [if_neg]
        rintro ⟨e1, e2⟩
        rw [HNL.out] at e1
        have e3 : nn0.tmod 2 = 0 := Classical.byContradiction fun hne => tmod2' hne e2
        simp [e1, e3] at h1)
      go_wp2_with fail
      go_meet
      case rel => exact ⟨by rw [HE.out], Lib.hid (Below.refl _ _)⟩
    · have hev := HEV.out
      simp only [Bool.and_eq_true, decide_eq_true_eq] at hev
      obtain ⟨hn0, ht⟩ := hev
      obtain ⟨c0, c1, c2, c3, c4, c5, c6, c7⟩ := R1.out.d8
      have cq : w1.cell? ⟨q, 0, none⟩ = some (.slice a n c) := (B1.out.cell (p := ⟨q, 0, none⟩) NQ.out).trans QA.out
      have g0 : (0 : Int) < (n : Int) := by omega
      have hUp := wrap_u64_bd at0
      obtain ⟨U, hU⟩ : ∃ U, IntKind.u64.wrap at0 = U := ⟨_, rfl⟩
      rw [hU] at hUp
      obtain ⟨k, hk⟩ : ∃ k : Nat, U % (n : Int) = k := ⟨(U % (n : Int)).toNat, by have := Int.emod_nonneg U (show (n : Int) ≠ 0 by omega); omega⟩
      have hkn : k < n := by have := Int.emod_lt_of_pos U g0; omega
      obtain ⟨b0, off, y, rfl, hy, hcell, -⟩ := HXL.out.ls.at fiOk (Below.refl _ _) k hkn
      have HSY := Lib.hid (show y.f.s = sm by
        rw [← HSM.out]
        unfold sumK
        rw [HNL.out, if_pos ⟨hn0, tmod2 ht⟩, hU, hk, show (k : Int).toNat = k from rfl, ← HYL.out, List.getElem?_map, hy]
        rfl)
      have cy0 := hcell 0 _ rfl
      have LB := Lib.hid (show b0 < w.heap.size from lt_of_cell cy0)
      have CY := Lib.hid (show w.cell? ⟨b0, off + k * 4, none⟩ = some (.string y.f.s) from cy0)
      rw [HSY.out] at CY
      have hwn : IntKind.u64.wrap (n : Int) = (n : Int) := by rw [IntKind.wrap_u64]; omega
      have hrm : U.tmod (n : Int) = (k : Int) := by rw [Int.tmod_eq_emod_of_nonneg hUp.1]; exact hk
      have hwk : IntKind.i64.wrap (k : Int) = (k : Int) := by rw [IntKind.wrap_i64]; omega
      have hwk2 : IntKind.u64.wrap (k : Int) = (k : Int) := by rw [IntKind.wrap_u64]; omega
      have g1 : (0 : Int) ≤ (k : Int) := by omega
      have g2 : (k : Int) < (n : Int) := by omega
      have gn0 : ((n : Int) == 0) = false := by rw [beq_eq_false_iff_ne]; omega
      have cy1 := (B1.out.cell (p := ⟨b0, off + k * 4, none⟩) LB.out).trans CY.out
      clear c0 c1 c3 c4 c5 c6 c7 hy hcell cy0 hk hUp ht
      have gnn : ¬ n = 0 := by omega
      have C2 := Lib.hid c2
      have Q1 := Lib.hid cq
      have CY1 := Lib.hid cy1
      have NQ1 := Lib.hid (show q < w1.heap.size from Nat.lt_of_lt_of_le NQ.out B1.out.size)
      have LB1 := Lib.hid (show b0 < w1.heap.size from Nat.lt_of_lt_of_le LB.out B1.out.size)
      clear c2 cq cy1
      go_wp2_with fail
      refine region_h (fun v => Below w1.heap.size w1 v) (by kernel_rfl) (by kernel_rfl) (Below.refl _ _).drew ?_
      obtain ⟨d0, hd0⟩ : ∃ wd, w1.drew = wd := ⟨_, rfl⟩
      have J0 : Hid (Below w1.heap.size w1 d0) := Lib.hid (by rw [← hd0]; exact (Below.refl _ _).drew)
      rw [hd0]
      clear hd0
      (refine h_read 0 rfl (by kernel_rfl) (by kernel_rfl) (h_free rfl) ?_ ?_ ?_; rotate_left; (focus (intro v hv; go_simp; rfl)); go_simp)
      (refine h_read 1 rfl (by kernel_rfl) (by kernel_rfl) (h_free rfl) ?_ ?_ ?_; rotate_left; (focus (intro v hv; go_simp; rfl)); go_simp)
      (refine h_read 2 rfl (by kernel_rfl) (by kernel_rfl) (h_free rfl) ?_ ?_ ?_; rotate_left; (focus (intro v hv; go_simp; rfl)); go_simp)
      (refine h_read 3 rfl (by kernel_rfl) (by kernel_rfl) (h_free rfl) ?_ ?_ ?_; rotate_left; (focus (intro v hv; have q0 := (hv.cell (p := ⟨q, 0, none⟩) NQ1.out).trans Q1.out; have e2 := (hv.cell (p := ⟨w.heap.size, 2, none⟩) R1.out.lt).trans C2.out; have y0 := (hv.cell (p := ⟨b0, off + k * 4, none⟩) LB1.out).trans CY1.out; go_simp; rfl)); go_simp)
      (refine h_read 4 rfl (by kernel_rfl) (by kernel_rfl) (h_free rfl) ?_ ?_ ?_; rotate_left; (focus (intro v hv; go_simp; rfl)); go_simp)
      (refine h_read 5 rfl (by kernel_rfl) (by kernel_rfl) (h_free rfl) ?_ ?_ ?_; rotate_left; (focus (intro v hv; have q0 := (hv.cell (p := ⟨q, 0, none⟩) NQ1.out).trans Q1.out; have e2 := (hv.cell (p := ⟨w.heap.size, 2, none⟩) R1.out.lt).trans C2.out; have y0 := (hv.cell (p := ⟨b0, off + k * 4, none⟩) LB1.out).trans CY1.out; go_simp; rfl)); go_simp)
      (refine h_read 6 rfl (by kernel_rfl) (by kernel_rfl) (h_free rfl) ?_ ?_ ?_; rotate_left; (focus (intro v hv; have q0 := (hv.cell (p := ⟨q, 0, none⟩) NQ1.out).trans Q1.out; have e2 := (hv.cell (p := ⟨w.heap.size, 2, none⟩) R1.out.lt).trans C2.out; have y0 := (hv.cell (p := ⟨b0, off + k * 4, none⟩) LB1.out).trans CY1.out; go_simp; rfl)); go_simp)
      (refine h_read 7 rfl (by kernel_rfl) (by kernel_rfl) (h_free rfl) ?_ ?_ ?_; rotate_left; (focus (intro v hv; go_simp; rfl)); go_simp)
      (refine h_read 8 rfl (by kernel_rfl) (by kernel_rfl) (h_free rfl) ?_ ?_ ?_; rotate_left; (focus (intro v hv; go_simp; rfl)); go_simp)
      (refine h_read 9 rfl (by kernel_rfl) (by kernel_rfl) (h_free rfl) ?_ ?_ ?_; rotate_left; (focus (intro v hv; go_simp; rfl)); go_simp)
      (refine h_read 10 rfl (by kernel_rfl) (by kernel_rfl) (h_free rfl) ?_ ?_ ?_; rotate_left; (focus (intro v hv; have q0 := (hv.cell (p := ⟨q, 0, none⟩) NQ1.out).trans Q1.out; have e2 := (hv.cell (p := ⟨w.heap.size, 2, none⟩) R1.out.lt).trans C2.out; have y0 := (hv.cell (p := ⟨b0, off + k * 4, none⟩) LB1.out).trans CY1.out; go_simp; rfl)); go_simp)
      (refine h_read 11 rfl (by kernel_rfl) (by kernel_rfl) (h_free rfl) ?_ ?_ ?_; rotate_left; (focus (intro v hv; go_simp; rfl)); go_simp)
      (refine h_read 12 rfl (by kernel_rfl) (by kernel_rfl) (h_free rfl) ?_ ?_ ?_; rotate_left; (focus (intro v hv; have q0 := (hv.cell (p := ⟨q, 0, none⟩) NQ1.out).trans Q1.out; have e2 := (hv.cell (p := ⟨w.heap.size, 2, none⟩) R1.out.lt).trans C2.out; have y0 := (hv.cell (p := ⟨b0, off + k * 4, none⟩) LB1.out).trans CY1.out; go_simp; rfl)); go_simp)
      (refine h_read 13 rfl (by kernel_rfl) (by kernel_rfl) (h_free rfl) ?_ ?_ ?_; rotate_left; (focus (intro v hv; go_simp; rfl)); go_simp)
      (refine h_read 14 rfl (by kernel_rfl) (by kernel_rfl) (h_free rfl) ?_ ?_ ?_; rotate_left; (focus (intro v hv; have q0 := (hv.cell (p := ⟨q, 0, none⟩) NQ1.out).trans Q1.out; have e2 := (hv.cell (p := ⟨w.heap.size, 2, none⟩) R1.out.lt).trans C2.out; have y0 := (hv.cell (p := ⟨b0, off + k * 4, none⟩) LB1.out).trans CY1.out; go_simp; rfl)); go_simp)
      (refine h_read 15 rfl (by kernel_rfl) (by kernel_rfl) (h_free rfl) ?_ ?_ ?_; rotate_left; (focus (intro v hv; go_simp; rfl)); go_simp)
      (refine h_read 16 rfl (by kernel_rfl) (by kernel_rfl) (h_free rfl) ?_ ?_ ?_; rotate_left; (focus (intro v hv; go_simp; rfl)); go_simp)
      (refine h_read 17 rfl (by kernel_rfl) (by kernel_rfl) (h_free rfl) ?_ ?_ ?_; rotate_left; (focus (intro v hv; have q0 := (hv.cell (p := ⟨q, 0, none⟩) NQ1.out).trans Q1.out; have e2 := (hv.cell (p := ⟨w.heap.size, 2, none⟩) R1.out.lt).trans C2.out; have y0 := (hv.cell (p := ⟨b0, off + k * 4, none⟩) LB1.out).trans CY1.out; go_simp; rfl)); go_simp)
      (refine h_read 18 rfl (by kernel_rfl) (by kernel_rfl) (h_free rfl) ?_ ?_ ?_; rotate_left; (focus (intro v hv; go_simp; rfl)); go_simp)
      refine h_done (by kernel_rfl) ?_
      go_wp2_with fail
      go_meet
      case rel => exact ⟨rfl, J0⟩
  case rest =>
    obtain ⟨rfl, BC⟩ := hcut
    have R1 := Lib.hid (R1.out.below BC.out R1.out.lt)
    have B1 := Lib.hid (B1.out.trans (BC.out.mono B1.out.size))
    clear BC
    obtain ⟨w1, rfl⟩ : ∃ x : World, x = wc := ⟨_, rfl⟩
    obtain ⟨g5, hg5⟩ : ∃ g, w.heap.size = g := ⟨_, rfl⟩
    have P1 := Lib.hid (HP.out.mono B1.out)
    have K1 := Lib.hid (HK.out.below B1.out HK.out.pos)
    have I1 := Lib.hid (show Below wI.heap.size wI w1 by rw [HBI.out]; exact HBW.out.trans (B1.out.mono hszb))
    have BW1 := Lib.hid (show Below base w w1 from B1.out.mono hszb)
    have Z1 := Lib.hid (show base ≤ w1.heap.size from Nat.le_trans hszb B1.out.size)
    have ZW := Lib.hid (show w.heap.size ≤ w1.heap.size from B1.out.size)
    have Z5 := Lib.hid R1.out.lt
    have N5S := Lib.hid (show ¬ S g5 from fun e => by have := NS.out g5 e; omega)
    have N5T := Lib.hid (show ¬ T g5 from fun e => by have := NT.out g5 e; omega)
    rw [hg5] at R1 NS NT NQ c4 Z5 ZW ⊢
    clear c4
    obtain ⟨c0, c1, c2, c3, c4, c5, c6, c7⟩ := R1.out.d8
    clear c1 c2 c3 c4 c6 c7
    have Q := Lib.hid (qcrash P1.out Z1.out HS.out ka kn kc ks (RK.out.mono intOk I1.out).sl (fun hn b off s e hs => by have h1 := ls_old RK.out hn b off s e; have h2 := P1.out.sb b hs; rw [HBI.out] at h1; omega))
    rw [HL2.out] at Q
    go_wp2_with (first
      | (go_at_call 28; (with_reducible refine Q.out.mono ?_); rintro e w2 ⟨rfl, hst⟩; obtain ⟨⟨S', hp2, hS'⟩, hft⟩ := hst; have P2' := Lib.hid hp2; have Z2 := Lib.hid (Nat.le_trans Z1.out hft.size); have F2 := Lib.hid (hft.below Z1.out P1.out.sb); have c5' := (R1.out.ft hft N5S.out).d8.2.2.2.2.2.1; have QX := Lib.hid (xcrash hp2 Z2.out HS.out ka kn kc ks (RK.out.mono intOk (show Below wI.heap.size wI w2 by rw [HBI.out]; exact (HBW.out.trans BW1.out).trans F2.out)).sl); rw [HL2.out] at QX; clear hp2 hS' hft c0 c5)
      | (go_at_call 41; (with_reducible refine QX.out.mono ?_); rintro e w3 ⟨rfl, hst⟩; obtain ⟨⟨T', hp3, hT'⟩, hft⟩ := hst; have P3 := Lib.hid hp3; have F3 := Lib.hid (hft.below Z2.out P2'.out.tb); clear hp3 hT' hft))
    go_ret
    exact ⟨rfl, ⟨S', T', P3.out⟩, BW1.out.trans (F2.out.trans F3.out)⟩
set_option maxRecDepth 100000 in
set_option maxHeartbeats 32000000 in
theorem do28_7 (d : DoK) (room : Int) (L : List Fi) (wI w : World) (base p q T0 : Nat) (S T : Nat → Prop) (h : P2 w base room p q L L S T) (hs : StOk T0 room L) (hT : T0 ≤ 890) (h0 : 0 ≤ room) (hK : Ks w) (hbI : wI.heap.size = base) (hbw : Below base wI w) (hp : 0 < base) (hd : d.fit wI) (hfw : d.few = true) (hop : d.op = 7) :
    Calls Tryz.prog 10 #[.pointer (some ⟨p, 0, none⟩), .pointer (some ⟨q, 0, none⟩), .agg d.cells.toArray] w fun e w' => e = .returned (.bool true) ∧ (∃ S' T', P2 w' base room p q (stepK room L d) (stepK room L d) S' T') ∧ Below base w w' := by
  have HS := Lib.hid hs
  have HP := Lib.hid h
  have HK := Lib.hid hK
  have HBI := Lib.hid hbI
  have HBW := Lib.hid hbw
  obtain ⟨a, n, c, Y, hY, hx⟩ := h.x
  have HXL := Lib.hid hx
  have hnL : L.length = n := by rw [← hY, List.length_map]; exact hx.ls.hlen
  have HNL := Lib.hid hnL
  have hn5 : n ≤ 524288 := by have := hs.len; omega
  have HYL := Lib.hid hY
  have QA := Lib.hid hx.rp.k2.1
  have NQ := Lib.hid (show q < w.heap.size from hx.rp.lt)
  have hszb : base ≤ w.heap.size := by rw [← hbI]; rw [← hbI] at hbw; exact hbw.size
  obtain ⟨sm, hsm⟩ : ∃ sm, sumK L d.n d.at' d.s = sm := ⟨_, rfl⟩
  have HSM := Lib.hid hsm
  have hsz : sm.size ≤ maxLen := by
    rw [← hsm]
    unfold sumK
    split
    · split
      · rename_i f hf
        have := (hs.ok f (List.mem_of_getElem? hf)).s
        unfold maxLen; omega
      · exact hd.s
    · exact hd.s
  have HSZ := Lib.hid hsz
  obtain ⟨L2, hL2⟩ : ∃ L2, stepK room L d = L2 := ⟨_, rfl⟩
  rw [hL2]
  have hfew := hfw
  unfold DoK.few at hfew
  simp only [Bool.and_eq_true, decide_eq_true_eq] at hfew
  obtain ⟨f1, f2, f3, f4, f5⟩ := hfew
  have NS := Lib.hid (fun k (hk : S k) => (show k < w.heap.size from h.slt k hk))
  have NT := Lib.hid (fun k (hk : T k) => (show k < w.heap.size from h.tlt k hk))
  obtain ⟨u1, u2⟩ := hd.n64
  obtain ⟨u3, u4⟩ := hd.a64
  clear h hs hK hbw hx hY hnL hsm hsz hfw hbI
  obtain ⟨op, nn0, at0, ba, bn, bc, b, s, ka, kn, kc, ks, na, nn, nc, ns, la, ln, lc, ls⟩ := d
  dsimp only at f1 f2 f3 f4 f5 u1 u2 u3 u4 HSM hL2 hop
  have RB := Lib.hid (show Rd wI ba bn bc b from hd.rb)
  have RK := Lib.hid (show Ls intE wI ka kn kc ks from hd.rk)
  have RN := Lib.hid (show Ls strE wI na nn nc ns from hd.rn)
  have RL := Lib.hid (show Ls intE wI la ln lc ls from hd.rl)
  have HN64 := Lib.hid (show SI64 nn0 from hd.n64)
  clear hd
  have o0 : (op == 0) = false := by rw [hop]; rfl
  have o1 : (op == 1) = false := by rw [hop]; rfl
  have o2 : (op == 2) = false := by rw [hop]; rfl
  have o3 : (op == 3) = false := by rw [hop]; rfl
  have o4 : (op == 4) = false := by rw [hop]; rfl
  have o5 : (op == 5) = false := by rw [hop]; rfl
  have o6 : (op == 6) = false := by rw [hop]; rfl
  have o7 : (op == 7) = true := by rw [hop]; rfl
  have HL2 := Lib.hid (show rotC L nn0 at0 nn0 = L2 by rw [← hL2]; unfold stepK; simp [hop])
  clear hL2 hop
  go_enter Tryz.func10, Tryz.ntmps10
  go_upto_region 2 with (first
    | ((with_reducible refine box_row (o := ⟨some 5, _, _, _, _, _⟩) rfl _ _ rfl (doC op nn0 at0 ba bn bc s ka kn kc na nn nc la ln lc) rfl ?_); intro w1 hr hb hz; have R1 := Lib.hid hr; have B1 := Lib.hid hb; have c4 := hr.d8.2.2.2.2.1; clear hr hb hz))
  obtain ⟨EV, hEV⟩ : ∃ EV : Bool, (decide (0 < n) && decide (nn0.tmod 2 = 0)) = EV := ⟨_, rfl⟩
  have HEV := Lib.hid hEV
  clear hEV
  go_cut [34] from 23 to 33 (fun v wx => v = .bool EV ∧ wx = w1)
  case first =>
    clear c4
    obtain ⟨c0, c1, c2, c3, c4, c5, c6, c7⟩ := R1.out.d8
    have cq : w1.cell? ⟨q, 0, none⟩ = some (.slice a n c) := (B1.out.cell (p := ⟨q, 0, none⟩) NQ.out).trans QA.out
    by_cases hn0 : 0 < n
    · have g0 : (0 : Int) < (n : Int) := by omega
      by_cases ht : nn0.tmod 2 = 0
      · have ge : (nn0.tmod 2 == 0) = true := by rw [ht]; rfl
        have HX := Lib.hid (show EV = true by rw [← HEV.out]; simp [hn0, ht])
        clear c0 c2 c3 c4 c5 c6 c7
        go_wp2_with fail
        go_meet
        case rel => exact ⟨by rw [HX.out], rfl⟩
      · have ge : (nn0.tmod 2 == 0) = false := by rw [beq_eq_false_iff_ne]; exact ht
        have HX := Lib.hid (show EV = false by rw [← HEV.out]; simp [ht])
        clear c0 c2 c3 c4 c5 c6 c7 ht
        go_wp2_with fail
        go_meet
        case rel => exact ⟨by rw [HX.out], rfl⟩
    · have g0 : ¬ (0 : Int) < (n : Int) := by omega
      have HX := Lib.hid (show EV = false by rw [← HEV.out]; simp [hn0])
      clear c0 c1 c2 c3 c4 c5 c6 c7
      go_wp2_with fail
      go_meet
      case rel => exact ⟨by rw [HX.out], rfl⟩
  case rest =>
  obtain ⟨rfl, rfl⟩ := hcut
  obtain ⟨w1, rfl⟩ : ∃ x : World, x = wc := ⟨_, rfl⟩
  go_upto_if 34 with fail
  go_cut [7] from 35 to 52 (fun v wx => v = .string sm ∧ Hid (Below w1.heap.size w1 wx))
  case first =>
    clear c4
    cases EV
    · have HE := Lib.hid (show s = sm by
        have h1 := HEV.out
        rw [← HSM.out]; unfold sumK
        rw [if_neg]
        rintro ⟨e1, e2⟩
        rw [HNL.out] at e1
        have e3 : nn0.tmod 2 = 0 := Classical.byContradiction fun hne => tmod2' hne e2
        simp [e1, e3] at h1)
      go_wp2_with fail
      go_meet
      case rel => exact ⟨by rw [HE.out], Lib.hid (Below.refl _ _)⟩
    · have hev := HEV.out
      simp only [Bool.and_eq_true, decide_eq_true_eq] at hev
      obtain ⟨hn0, ht⟩ := hev
      obtain ⟨c0, c1, c2, c3, c4, c5, c6, c7⟩ := R1.out.d8
      have cq : w1.cell? ⟨q, 0, none⟩ = some (.slice a n c) := (B1.out.cell (p := ⟨q, 0, none⟩) NQ.out).trans QA.out
      have g0 : (0 : Int) < (n : Int) := by omega
      have hUp := wrap_u64_bd at0
      obtain ⟨U, hU⟩ : ∃ U, IntKind.u64.wrap at0 = U := ⟨_, rfl⟩
      rw [hU] at hUp
      obtain ⟨k, hk⟩ : ∃ k : Nat, U % (n : Int) = k := ⟨(U % (n : Int)).toNat, by have := Int.emod_nonneg U (show (n : Int) ≠ 0 by omega); omega⟩
      have hkn : k < n := by have := Int.emod_lt_of_pos U g0; omega
      obtain ⟨b0, off, y, rfl, hy, hcell, -⟩ := HXL.out.ls.at fiOk (Below.refl _ _) k hkn
      have HSY := Lib.hid (show y.f.s = sm by
        rw [← HSM.out]
        unfold sumK
        rw [HNL.out, if_pos ⟨hn0, tmod2 ht⟩, hU, hk, show (k : Int).toNat = k from rfl, ← HYL.out, List.getElem?_map, hy]
        rfl)
      have cy0 := hcell 0 _ rfl
      have LB := Lib.hid (show b0 < w.heap.size from lt_of_cell cy0)
      have CY := Lib.hid (show w.cell? ⟨b0, off + k * 4, none⟩ = some (.string y.f.s) from cy0)
      rw [HSY.out] at CY
      have hwn : IntKind.u64.wrap (n : Int) = (n : Int) := by rw [IntKind.wrap_u64]; omega
      have hrm : U.tmod (n : Int) = (k : Int) := by rw [Int.tmod_eq_emod_of_nonneg hUp.1]; exact hk
      have hwk : IntKind.i64.wrap (k : Int) = (k : Int) := by rw [IntKind.wrap_i64]; omega
      have hwk2 : IntKind.u64.wrap (k : Int) = (k : Int) := by rw [IntKind.wrap_u64]; omega
      have g1 : (0 : Int) ≤ (k : Int) := by omega
      have g2 : (k : Int) < (n : Int) := by omega
      have gn0 : ((n : Int) == 0) = false := by rw [beq_eq_false_iff_ne]; omega
      have cy1 := (B1.out.cell (p := ⟨b0, off + k * 4, none⟩) LB.out).trans CY.out
      clear c0 c1 c3 c4 c5 c6 c7 hy hcell cy0 hk hUp ht
      have gnn : ¬ n = 0 := by omega
      have C2 := Lib.hid c2
      have Q1 := Lib.hid cq
      have CY1 := Lib.hid cy1
      have NQ1 := Lib.hid (show q < w1.heap.size from Nat.lt_of_lt_of_le NQ.out B1.out.size)
      have LB1 := Lib.hid (show b0 < w1.heap.size from Nat.lt_of_lt_of_le LB.out B1.out.size)
      clear c2 cq cy1
      go_wp2_with fail
      refine region_h (fun v => Below w1.heap.size w1 v) (by kernel_rfl) (by kernel_rfl) (Below.refl _ _).drew ?_
      obtain ⟨d0, hd0⟩ : ∃ wd, w1.drew = wd := ⟨_, rfl⟩
      have J0 : Hid (Below w1.heap.size w1 d0) := Lib.hid (by rw [← hd0]; exact (Below.refl _ _).drew)
      rw [hd0]
      clear hd0
      (refine h_read 0 rfl (by kernel_rfl) (by kernel_rfl) (h_free rfl) ?_ ?_ ?_; rotate_left; (focus (intro v hv; go_simp; rfl)); go_simp)
      (refine h_read 1 rfl (by kernel_rfl) (by kernel_rfl) (h_free rfl) ?_ ?_ ?_; rotate_left; (focus (intro v hv; go_simp; rfl)); go_simp)
      (refine h_read 2 rfl (by kernel_rfl) (by kernel_rfl) (h_free rfl) ?_ ?_ ?_; rotate_left; (focus (intro v hv; go_simp; rfl)); go_simp)
      (refine h_read 3 rfl (by kernel_rfl) (by kernel_rfl) (h_free rfl) ?_ ?_ ?_; rotate_left; (focus (intro v hv; have q0 := (hv.cell (p := ⟨q, 0, none⟩) NQ1.out).trans Q1.out; have e2 := (hv.cell (p := ⟨w.heap.size, 2, none⟩) R1.out.lt).trans C2.out; have y0 := (hv.cell (p := ⟨b0, off + k * 4, none⟩) LB1.out).trans CY1.out; go_simp; rfl)); go_simp)
      (refine h_read 4 rfl (by kernel_rfl) (by kernel_rfl) (h_free rfl) ?_ ?_ ?_; rotate_left; (focus (intro v hv; go_simp; rfl)); go_simp)
      (refine h_read 5 rfl (by kernel_rfl) (by kernel_rfl) (h_free rfl) ?_ ?_ ?_; rotate_left; (focus (intro v hv; have q0 := (hv.cell (p := ⟨q, 0, none⟩) NQ1.out).trans Q1.out; have e2 := (hv.cell (p := ⟨w.heap.size, 2, none⟩) R1.out.lt).trans C2.out; have y0 := (hv.cell (p := ⟨b0, off + k * 4, none⟩) LB1.out).trans CY1.out; go_simp; rfl)); go_simp)
      (refine h_read 6 rfl (by kernel_rfl) (by kernel_rfl) (h_free rfl) ?_ ?_ ?_; rotate_left; (focus (intro v hv; have q0 := (hv.cell (p := ⟨q, 0, none⟩) NQ1.out).trans Q1.out; have e2 := (hv.cell (p := ⟨w.heap.size, 2, none⟩) R1.out.lt).trans C2.out; have y0 := (hv.cell (p := ⟨b0, off + k * 4, none⟩) LB1.out).trans CY1.out; go_simp; rfl)); go_simp)
      (refine h_read 7 rfl (by kernel_rfl) (by kernel_rfl) (h_free rfl) ?_ ?_ ?_; rotate_left; (focus (intro v hv; go_simp; rfl)); go_simp)
      (refine h_read 8 rfl (by kernel_rfl) (by kernel_rfl) (h_free rfl) ?_ ?_ ?_; rotate_left; (focus (intro v hv; go_simp; rfl)); go_simp)
      (refine h_read 9 rfl (by kernel_rfl) (by kernel_rfl) (h_free rfl) ?_ ?_ ?_; rotate_left; (focus (intro v hv; go_simp; rfl)); go_simp)
      (refine h_read 10 rfl (by kernel_rfl) (by kernel_rfl) (h_free rfl) ?_ ?_ ?_; rotate_left; (focus (intro v hv; have q0 := (hv.cell (p := ⟨q, 0, none⟩) NQ1.out).trans Q1.out; have e2 := (hv.cell (p := ⟨w.heap.size, 2, none⟩) R1.out.lt).trans C2.out; have y0 := (hv.cell (p := ⟨b0, off + k * 4, none⟩) LB1.out).trans CY1.out; go_simp; rfl)); go_simp)
      (refine h_read 11 rfl (by kernel_rfl) (by kernel_rfl) (h_free rfl) ?_ ?_ ?_; rotate_left; (focus (intro v hv; go_simp; rfl)); go_simp)
      (refine h_read 12 rfl (by kernel_rfl) (by kernel_rfl) (h_free rfl) ?_ ?_ ?_; rotate_left; (focus (intro v hv; have q0 := (hv.cell (p := ⟨q, 0, none⟩) NQ1.out).trans Q1.out; have e2 := (hv.cell (p := ⟨w.heap.size, 2, none⟩) R1.out.lt).trans C2.out; have y0 := (hv.cell (p := ⟨b0, off + k * 4, none⟩) LB1.out).trans CY1.out; go_simp; rfl)); go_simp)
      (refine h_read 13 rfl (by kernel_rfl) (by kernel_rfl) (h_free rfl) ?_ ?_ ?_; rotate_left; (focus (intro v hv; go_simp; rfl)); go_simp)
      (refine h_read 14 rfl (by kernel_rfl) (by kernel_rfl) (h_free rfl) ?_ ?_ ?_; rotate_left; (focus (intro v hv; have q0 := (hv.cell (p := ⟨q, 0, none⟩) NQ1.out).trans Q1.out; have e2 := (hv.cell (p := ⟨w.heap.size, 2, none⟩) R1.out.lt).trans C2.out; have y0 := (hv.cell (p := ⟨b0, off + k * 4, none⟩) LB1.out).trans CY1.out; go_simp; rfl)); go_simp)
      (refine h_read 15 rfl (by kernel_rfl) (by kernel_rfl) (h_free rfl) ?_ ?_ ?_; rotate_left; (focus (intro v hv; go_simp; rfl)); go_simp)
      (refine h_read 16 rfl (by kernel_rfl) (by kernel_rfl) (h_free rfl) ?_ ?_ ?_; rotate_left; (focus (intro v hv; go_simp; rfl)); go_simp)
      (refine h_read 17 rfl (by kernel_rfl) (by kernel_rfl) (h_free rfl) ?_ ?_ ?_; rotate_left; (focus (intro v hv; have q0 := (hv.cell (p := ⟨q, 0, none⟩) NQ1.out).trans Q1.out; have e2 := (hv.cell (p := ⟨w.heap.size, 2, none⟩) R1.out.lt).trans C2.out; have y0 := (hv.cell (p := ⟨b0, off + k * 4, none⟩) LB1.out).trans CY1.out; go_simp; rfl)); go_simp)
      (refine h_read 18 rfl (by kernel_rfl) (by kernel_rfl) (h_free rfl) ?_ ?_ ?_; rotate_left; (focus (intro v hv; go_simp; rfl)); go_simp)
      refine h_done (by kernel_rfl) ?_
      go_wp2_with fail
      go_meet
      case rel => exact ⟨rfl, J0⟩
  case rest =>
    obtain ⟨rfl, BC⟩ := hcut
    have R1 := Lib.hid (R1.out.below BC.out R1.out.lt)
    have B1 := Lib.hid (B1.out.trans (BC.out.mono B1.out.size))
    clear BC
    obtain ⟨w1, rfl⟩ : ∃ x : World, x = wc := ⟨_, rfl⟩
    obtain ⟨g5, hg5⟩ : ∃ g, w.heap.size = g := ⟨_, rfl⟩
    have P1 := Lib.hid (HP.out.mono B1.out)
    have K1 := Lib.hid (HK.out.below B1.out HK.out.pos)
    have I1 := Lib.hid (show Below wI.heap.size wI w1 by rw [HBI.out]; exact HBW.out.trans (B1.out.mono hszb))
    have BW1 := Lib.hid (show Below base w w1 from B1.out.mono hszb)
    have Z1 := Lib.hid (show base ≤ w1.heap.size from Nat.le_trans hszb B1.out.size)
    have ZW := Lib.hid (show w.heap.size ≤ w1.heap.size from B1.out.size)
    have Z5 := Lib.hid R1.out.lt
    have N5S := Lib.hid (show ¬ S g5 from fun e => by have := NS.out g5 e; omega)
    have N5T := Lib.hid (show ¬ T g5 from fun e => by have := NT.out g5 e; omega)
    rw [hg5] at R1 NS NT NQ c4 Z5 ZW ⊢
    clear c4
    obtain ⟨c0, c1, c2, c3, c4, c5, c6, c7⟩ := R1.out.d8
    clear c1 c2 c3 c4 c5 c6 c7
    obtain ⟨dz, hdz⟩ : ∃ dz, decide (L.length ≠ 0) = dz := ⟨_, rfl⟩
    have HQ0 := Lib.hid (fun w' (hb : Below w1.heap.size w1 w') => by have := qrot (P1.out.mono hb) (Nat.le_trans Z1.out hb.size) HS.out nn0 at0 nn0; rw [HL2.out, hdz] at this; exact this)
    have HDZ := Lib.hid hdz
    clear hdz
    go_wp2_with fail
    clear c0
    refine region_h (fun v => Row v g5 34 (doC op nn0 at0 ba bn bc s ka kn kc na nn nc la ln lc)) (by kernel_rfl) (by kernel_rfl) (R1.out.below (Below.refl w1.heap.size w1).drew R1.out.lt) ?_
    obtain ⟨d0, hd0⟩ : ∃ wd, w1.drew = wd := ⟨_, rfl⟩
    have J0 : Hid (Below w1.heap.size w1 d0) := Lib.hid (by rw [← hd0]; exact (Below.refl _ _).drew)
    have R0 := Lib.hid (R1.out.below J0.out R1.out.lt)
    rw [hd0]
    clear hd0
    (refine h_read 0 rfl (by kernel_rfl) (by kernel_rfl) (h_free rfl) ?_ ?_ ?_; rotate_left; (focus (intro v hv; go_simp; rfl)); go_simp)
    (refine h_read 1 rfl (by kernel_rfl) (by kernel_rfl) (h_free rfl) ?_ ?_ ?_; rotate_left; (focus (intro v hv; go_simp; rfl)); go_simp)
    (refine h_read 2 rfl (by kernel_rfl) (by kernel_rfl) (h_free rfl) ?_ ?_ ?_; rotate_left; (focus (intro v hv; have x1 := hv.d8.2.1; have x2 := hv.d8.2.2.1; go_simp; rfl)); go_simp)
    (refine h_read 3 rfl (by kernel_rfl) (by kernel_rfl) (h_free rfl) ?_ ?_ ?_; rotate_left; (focus (intro v hv; go_simp; rfl)); go_simp)
    (refine h_read 4 rfl (by kernel_rfl) (by kernel_rfl) (h_free rfl) ?_ ?_ ?_; rotate_left; (focus (intro v hv; have x1 := hv.d8.2.1; have x2 := hv.d8.2.2.1; go_simp; rfl)); go_simp)
    (refine h_read 5 rfl (by kernel_rfl) (by kernel_rfl) (h_free rfl) ?_ ?_ ?_; rotate_left; (focus (intro v hv; go_simp; rfl)); go_simp)
    (refine h_read 6 rfl (by kernel_rfl) (by kernel_rfl) (h_free rfl) ?_ ?_ ?_; rotate_left; (focus (intro v hv; have x1 := hv.d8.2.1; have x2 := hv.d8.2.2.1; go_simp; rfl)); go_simp)
    (refine h_read 8 rfl (by kernel_rfl) (by kernel_rfl) (h_free rfl) ?_ ?_ ?_; rotate_left; (focus (intro v hv; go_simp; rfl)); go_simp)
    (refine h_read 9 rfl (by kernel_rfl) (by kernel_rfl) (h_free rfl) ?_ ?_ ?_; rotate_left; (focus (intro v hv; go_simp; rfl)); go_simp)
    (refine h_read 10 rfl (by kernel_rfl) (by kernel_rfl) (h_free rfl) ?_ ?_ ?_; rotate_left; (focus (intro v hv; have x1 := hv.d8.2.1; have x2 := hv.d8.2.2.1; go_simp; rfl)); go_simp)
    (refine h_read 11 rfl (by kernel_rfl) (by kernel_rfl) (h_free rfl) ?_ ?_ ?_; rotate_left; (focus (intro v hv; go_simp; rfl)); go_simp)
    (refine h_read 12 rfl (by kernel_rfl) (by kernel_rfl) (h_free rfl) ?_ ?_ ?_; rotate_left; (focus (intro v hv; have x1 := hv.d8.2.1; have x2 := hv.d8.2.2.1; go_simp; rfl)); go_simp)
    (refine h_read 13 rfl (by kernel_rfl) (by kernel_rfl) (h_free rfl) ?_ ?_ ?_; rotate_left; (focus (intro v hv; go_simp; rfl)); go_simp)
    (refine h_read 14 rfl (by kernel_rfl) (by kernel_rfl) (h_free rfl) ?_ ?_ ?_; rotate_left; (focus (intro v hv; have x1 := hv.d8.2.1; have x2 := hv.d8.2.2.1; go_simp; rfl)); go_simp)
    (refine h_call 7 rfl (by kernel_rfl) (h_free rfl) 42 ?_ ?_ ?_; rotate_left; (focus (go_simp; rfl)))
    refine (HQ0.out d0 J0.out).mono ?_
    rintro z d1 ⟨rfl, hst⟩
    obtain ⟨⟨S', hp2, hS'⟩, hft⟩ := hst
    have P2' := Lib.hid hp2
    have Z2 := Lib.hid (show base ≤ d1.heap.size from Nat.le_trans (Nat.le_trans Z1.out J0.out.size) hft.size)
    have F2 := Lib.hid ((J0.out.mono Z1.out).trans (hft.below (Nat.le_trans Z1.out J0.out.size) P1.out.sb))
    have R2 := Lib.hid (R0.out.ft hft N5S.out)
    have QX := xrot hp2 Z2.out HS.out nn0 at0 nn0
    rw [HL2.out, HDZ.out] at QX
    have HQX := Lib.hid QX
    clear hp2 hS' hft QX
    refine ⟨_, rfl, R2.out, ?_⟩
    go_simp
    (refine h_call 15 rfl (by kernel_rfl) (h_free rfl) 43 ?_ ?_ ?_; rotate_left; (focus (go_simp; rfl)))
    refine HQX.out.mono ?_
    rintro z d2 ⟨rfl, hst⟩
    obtain ⟨⟨T', hp3, hT'⟩, hft⟩ := hst
    have P3 := Lib.hid hp3
    have F3 := Lib.hid (hft.below Z2.out P2'.out.tb)
    have R3 := Lib.hid (R2.out.ft hft N5T.out)
    clear hp3 hT' hft
    refine ⟨_, rfl, R3.out, ?_⟩
    go_simp
    (refine h_read 16 rfl (by kernel_rfl) (by kernel_rfl) (h_free rfl) ?_ ?_ ?_; rotate_left; (focus (intro v hv; go_simp; rfl)); go_simp)
    (refine h_read 17 rfl (by kernel_rfl) (by kernel_rfl) (h_free rfl) ?_ ?_ ?_; rotate_left; (focus (intro v hv; go_simp; rfl)); go_simp)
    refine h_done (by kernel_rfl) ?_
    go_wp2_with fail
    go_ret
    exact ⟨one (vbool (by simp)), ⟨S', T', P3.out⟩, BW1.out.trans (F2.out.trans F3.out)⟩
set_option maxRecDepth 100000 in
set_option maxHeartbeats 32000000 in
theorem do28_8 (d : DoK) (room : Int) (L : List Fi) (wI w : World) (base p q T0 : Nat) (S T : Nat → Prop) (h : P2 w base room p q L L S T) (hs : StOk T0 room L) (hT : T0 ≤ 890) (h0 : 0 ≤ room) (hK : Ks w) (hbI : wI.heap.size = base) (hbw : Below base wI w) (hp : 0 < base) (hd : d.fit wI) (hfw : d.few = true) (hop : d.op = 8) :
    Calls Tryz.prog 10 #[.pointer (some ⟨p, 0, none⟩), .pointer (some ⟨q, 0, none⟩), .agg d.cells.toArray] w fun e w' => e = .returned (.bool true) ∧ (∃ S' T', P2 w' base room p q (stepK room L d) (stepK room L d) S' T') ∧ Below base w w' := by
  have HS := Lib.hid hs
  have HP := Lib.hid h
  have HK := Lib.hid hK
  have HBI := Lib.hid hbI
  have HBW := Lib.hid hbw
  obtain ⟨a, n, c, Y, hY, hx⟩ := h.x
  have HXL := Lib.hid hx
  have hnL : L.length = n := by rw [← hY, List.length_map]; exact hx.ls.hlen
  have HNL := Lib.hid hnL
  have hn5 : n ≤ 524288 := by have := hs.len; omega
  have HYL := Lib.hid hY
  have QA := Lib.hid hx.rp.k2.1
  have NQ := Lib.hid (show q < w.heap.size from hx.rp.lt)
  have hszb : base ≤ w.heap.size := by rw [← hbI]; rw [← hbI] at hbw; exact hbw.size
  obtain ⟨sm, hsm⟩ : ∃ sm, sumK L d.n d.at' d.s = sm := ⟨_, rfl⟩
  have HSM := Lib.hid hsm
  have hsz : sm.size ≤ maxLen := by
    rw [← hsm]
    unfold sumK
    split
    · split
      · rename_i f hf
        have := (hs.ok f (List.mem_of_getElem? hf)).s
        unfold maxLen; omega
      · exact hd.s
    · exact hd.s
  have HSZ := Lib.hid hsz
  obtain ⟨L2, hL2⟩ : ∃ L2, stepK room L d = L2 := ⟨_, rfl⟩
  rw [hL2]
  have hfew := hfw
  unfold DoK.few at hfew
  simp only [Bool.and_eq_true, decide_eq_true_eq] at hfew
  obtain ⟨f1, f2, f3, f4, f5⟩ := hfew
  have NS := Lib.hid (fun k (hk : S k) => (show k < w.heap.size from h.slt k hk))
  have NT := Lib.hid (fun k (hk : T k) => (show k < w.heap.size from h.tlt k hk))
  obtain ⟨u1, u2⟩ := hd.n64
  obtain ⟨u3, u4⟩ := hd.a64
  clear h hs hK hbw hx hY hnL hsm hsz hfw hbI
  obtain ⟨op, nn0, at0, ba, bn, bc, b, s, ka, kn, kc, ks, na, nn, nc, ns, la, ln, lc, ls⟩ := d
  dsimp only at f1 f2 f3 f4 f5 u1 u2 u3 u4 HSM hL2 hop
  have RB := Lib.hid (show Rd wI ba bn bc b from hd.rb)
  have RK := Lib.hid (show Ls intE wI ka kn kc ks from hd.rk)
  have RN := Lib.hid (show Ls strE wI na nn nc ns from hd.rn)
  have RL := Lib.hid (show Ls intE wI la ln lc ls from hd.rl)
  have HN64 := Lib.hid (show SI64 nn0 from hd.n64)
  clear hd
  have o0 : (op == 0) = false := by rw [hop]; rfl
  have o1 : (op == 1) = false := by rw [hop]; rfl
  have o2 : (op == 2) = false := by rw [hop]; rfl
  have o3 : (op == 3) = false := by rw [hop]; rfl
  have o4 : (op == 4) = false := by rw [hop]; rfl
  have o5 : (op == 5) = false := by rw [hop]; rfl
  have o6 : (op == 6) = false := by rw [hop]; rfl
  have o7 : (op == 7) = false := by rw [hop]; rfl
  have o8 : (op == 8) = true := by rw [hop]; rfl
  have HL2 := Lib.hid (show L.filter intactC = L2 by rw [← hL2]; unfold stepK; simp [hop])
  clear hL2 hop
  go_enter Tryz.func10, Tryz.ntmps10
  go_upto_region 2 with (first
    | ((with_reducible refine box_row (o := ⟨some 5, _, _, _, _, _⟩) rfl _ _ rfl (doC op nn0 at0 ba bn bc s ka kn kc na nn nc la ln lc) rfl ?_); intro w1 hr hb hz; have R1 := Lib.hid hr; have B1 := Lib.hid hb; have c4 := hr.d8.2.2.2.2.1; clear hr hb hz))
  obtain ⟨EV, hEV⟩ : ∃ EV : Bool, (decide (0 < n) && decide (nn0.tmod 2 = 0)) = EV := ⟨_, rfl⟩
  have HEV := Lib.hid hEV
  clear hEV
  go_cut [34] from 23 to 33 (fun v wx => v = .bool EV ∧ wx = w1)
  case first =>
    clear c4
    obtain ⟨c0, c1, c2, c3, c4, c5, c6, c7⟩ := R1.out.d8
    have cq : w1.cell? ⟨q, 0, none⟩ = some (.slice a n c) := (B1.out.cell (p := ⟨q, 0, none⟩) NQ.out).trans QA.out
    by_cases hn0 : 0 < n
    · have g0 : (0 : Int) < (n : Int) := by omega
      by_cases ht : nn0.tmod 2 = 0
      · have ge : (nn0.tmod 2 == 0) = true := by rw [ht]; rfl
        have HX := Lib.hid (show EV = true by rw [← HEV.out]; simp [hn0, ht])
        clear c0 c2 c3 c4 c5 c6 c7
        go_wp2_with fail
        go_meet
        case rel => exact ⟨by rw [HX.out], rfl⟩
      · have ge : (nn0.tmod 2 == 0) = false := by rw [beq_eq_false_iff_ne]; exact ht
        have HX := Lib.hid (show EV = false by rw [← HEV.out]; simp [ht])
        clear c0 c2 c3 c4 c5 c6 c7 ht
        go_wp2_with fail
        go_meet
        case rel => exact ⟨by rw [HX.out], rfl⟩
    · have g0 : ¬ (0 : Int) < (n : Int) := by omega
      have HX := Lib.hid (show EV = false by rw [← HEV.out]; simp [hn0])
      clear c0 c1 c2 c3 c4 c5 c6 c7
      go_wp2_with fail
      go_meet
      case rel => exact ⟨by rw [HX.out], rfl⟩
  case rest =>
  obtain ⟨rfl, rfl⟩ := hcut
  obtain ⟨w1, rfl⟩ : ∃ x : World, x = wc := ⟨_, rfl⟩
  go_upto_if 34 with fail
  go_cut [7] from 35 to 52 (fun v wx => v = .string sm ∧ Hid (Below w1.heap.size w1 wx))
  case first =>
    clear c4
    cases EV
    · have HE := Lib.hid (show s = sm by
        have h1 := HEV.out
        rw [← HSM.out]; unfold sumK
        rw [if_neg]
        rintro ⟨e1, e2⟩
        rw [HNL.out] at e1
        have e3 : nn0.tmod 2 = 0 := Classical.byContradiction fun hne => tmod2' hne e2
        simp [e1, e3] at h1)
      go_wp2_with fail
      go_meet
      case rel => exact ⟨by rw [HE.out], Lib.hid (Below.refl _ _)⟩
    · have hev := HEV.out
      simp only [Bool.and_eq_true, decide_eq_true_eq] at hev
      obtain ⟨hn0, ht⟩ := hev
      obtain ⟨c0, c1, c2, c3, c4, c5, c6, c7⟩ := R1.out.d8
      have cq : w1.cell? ⟨q, 0, none⟩ = some (.slice a n c) := (B1.out.cell (p := ⟨q, 0, none⟩) NQ.out).trans QA.out
      have g0 : (0 : Int) < (n : Int) := by omega
      have hUp := wrap_u64_bd at0
      obtain ⟨U, hU⟩ : ∃ U, IntKind.u64.wrap at0 = U := ⟨_, rfl⟩
      rw [hU] at hUp
      obtain ⟨k, hk⟩ : ∃ k : Nat, U % (n : Int) = k := ⟨(U % (n : Int)).toNat, by have := Int.emod_nonneg U (show (n : Int) ≠ 0 by omega); omega⟩
      have hkn : k < n := by have := Int.emod_lt_of_pos U g0; omega
      obtain ⟨b0, off, y, rfl, hy, hcell, -⟩ := HXL.out.ls.at fiOk (Below.refl _ _) k hkn
      have HSY := Lib.hid (show y.f.s = sm by
        rw [← HSM.out]
        unfold sumK
        rw [HNL.out, if_pos ⟨hn0, tmod2 ht⟩, hU, hk, show (k : Int).toNat = k from rfl, ← HYL.out, List.getElem?_map, hy]
        rfl)
      have cy0 := hcell 0 _ rfl
      have LB := Lib.hid (show b0 < w.heap.size from lt_of_cell cy0)
      have CY := Lib.hid (show w.cell? ⟨b0, off + k * 4, none⟩ = some (.string y.f.s) from cy0)
      rw [HSY.out] at CY
      have hwn : IntKind.u64.wrap (n : Int) = (n : Int) := by rw [IntKind.wrap_u64]; omega
      have hrm : U.tmod (n : Int) = (k : Int) := by rw [Int.tmod_eq_emod_of_nonneg hUp.1]; exact hk
      have hwk : IntKind.i64.wrap (k : Int) = (k : Int) := by rw [IntKind.wrap_i64]; omega
      have hwk2 : IntKind.u64.wrap (k : Int) = (k : Int) := by rw [IntKind.wrap_u64]; omega
      have g1 : (0 : Int) ≤ (k : Int) := by omega
      have g2 : (k : Int) < (n : Int) := by omega
      have gn0 : ((n : Int) == 0) = false := by rw [beq_eq_false_iff_ne]; omega
      have cy1 := (B1.out.cell (p := ⟨b0, off + k * 4, none⟩) LB.out).trans CY.out
      clear c0 c1 c3 c4 c5 c6 c7 hy hcell cy0 hk hUp ht
      have gnn : ¬ n = 0 := by omega
      have C2 := Lib.hid c2
      have Q1 := Lib.hid cq
      have CY1 := Lib.hid cy1
      have NQ1 := Lib.hid (show q < w1.heap.size from Nat.lt_of_lt_of_le NQ.out B1.out.size)
      have LB1 := Lib.hid (show b0 < w1.heap.size from Nat.lt_of_lt_of_le LB.out B1.out.size)
      clear c2 cq cy1
      go_wp2_with fail
      refine region_h (fun v => Below w1.heap.size w1 v) (by kernel_rfl) (by kernel_rfl) (Below.refl _ _).drew ?_
      obtain ⟨d0, hd0⟩ : ∃ wd, w1.drew = wd := ⟨_, rfl⟩
      have J0 : Hid (Below w1.heap.size w1 d0) := Lib.hid (by rw [← hd0]; exact (Below.refl _ _).drew)
      rw [hd0]
      clear hd0
      (refine h_read 0 rfl (by kernel_rfl) (by kernel_rfl) (h_free rfl) ?_ ?_ ?_; rotate_left; (focus (intro v hv; go_simp; rfl)); go_simp)
      (refine h_read 1 rfl (by kernel_rfl) (by kernel_rfl) (h_free rfl) ?_ ?_ ?_; rotate_left; (focus (intro v hv; go_simp; rfl)); go_simp)
      (refine h_read 2 rfl (by kernel_rfl) (by kernel_rfl) (h_free rfl) ?_ ?_ ?_; rotate_left; (focus (intro v hv; go_simp; rfl)); go_simp)
      (refine h_read 3 rfl (by kernel_rfl) (by kernel_rfl) (h_free rfl) ?_ ?_ ?_; rotate_left; (focus (intro v hv; have q0 := (hv.cell (p := ⟨q, 0, none⟩) NQ1.out).trans Q1.out; have e2 := (hv.cell (p := ⟨w.heap.size, 2, none⟩) R1.out.lt).trans C2.out; have y0 := (hv.cell (p := ⟨b0, off + k * 4, none⟩) LB1.out).trans CY1.out; go_simp; rfl)); go_simp)
      (refine h_read 4 rfl (by kernel_rfl) (by kernel_rfl) (h_free rfl) ?_ ?_ ?_; rotate_left; (focus (intro v hv; go_simp; rfl)); go_simp)
      (refine h_read 5 rfl (by kernel_rfl) (by kernel_rfl) (h_free rfl) ?_ ?_ ?_; rotate_left; (focus (intro v hv; have q0 := (hv.cell (p := ⟨q, 0, none⟩) NQ1.out).trans Q1.out; have e2 := (hv.cell (p := ⟨w.heap.size, 2, none⟩) R1.out.lt).trans C2.out; have y0 := (hv.cell (p := ⟨b0, off + k * 4, none⟩) LB1.out).trans CY1.out; go_simp; rfl)); go_simp)
      (refine h_read 6 rfl (by kernel_rfl) (by kernel_rfl) (h_free rfl) ?_ ?_ ?_; rotate_left; (focus (intro v hv; have q0 := (hv.cell (p := ⟨q, 0, none⟩) NQ1.out).trans Q1.out; have e2 := (hv.cell (p := ⟨w.heap.size, 2, none⟩) R1.out.lt).trans C2.out; have y0 := (hv.cell (p := ⟨b0, off + k * 4, none⟩) LB1.out).trans CY1.out; go_simp; rfl)); go_simp)
      (refine h_read 7 rfl (by kernel_rfl) (by kernel_rfl) (h_free rfl) ?_ ?_ ?_; rotate_left; (focus (intro v hv; go_simp; rfl)); go_simp)
      (refine h_read 8 rfl (by kernel_rfl) (by kernel_rfl) (h_free rfl) ?_ ?_ ?_; rotate_left; (focus (intro v hv; go_simp; rfl)); go_simp)
      (refine h_read 9 rfl (by kernel_rfl) (by kernel_rfl) (h_free rfl) ?_ ?_ ?_; rotate_left; (focus (intro v hv; go_simp; rfl)); go_simp)
      (refine h_read 10 rfl (by kernel_rfl) (by kernel_rfl) (h_free rfl) ?_ ?_ ?_; rotate_left; (focus (intro v hv; have q0 := (hv.cell (p := ⟨q, 0, none⟩) NQ1.out).trans Q1.out; have e2 := (hv.cell (p := ⟨w.heap.size, 2, none⟩) R1.out.lt).trans C2.out; have y0 := (hv.cell (p := ⟨b0, off + k * 4, none⟩) LB1.out).trans CY1.out; go_simp; rfl)); go_simp)
      (refine h_read 11 rfl (by kernel_rfl) (by kernel_rfl) (h_free rfl) ?_ ?_ ?_; rotate_left; (focus (intro v hv; go_simp; rfl)); go_simp)
      (refine h_read 12 rfl (by kernel_rfl) (by kernel_rfl) (h_free rfl) ?_ ?_ ?_; rotate_left; (focus (intro v hv; have q0 := (hv.cell (p := ⟨q, 0, none⟩) NQ1.out).trans Q1.out; have e2 := (hv.cell (p := ⟨w.heap.size, 2, none⟩) R1.out.lt).trans C2.out; have y0 := (hv.cell (p := ⟨b0, off + k * 4, none⟩) LB1.out).trans CY1.out; go_simp; rfl)); go_simp)
      (refine h_read 13 rfl (by kernel_rfl) (by kernel_rfl) (h_free rfl) ?_ ?_ ?_; rotate_left; (focus (intro v hv; go_simp; rfl)); go_simp)
      (refine h_read 14 rfl (by kernel_rfl) (by kernel_rfl) (h_free rfl) ?_ ?_ ?_; rotate_left; (focus (intro v hv; have q0 := (hv.cell (p := ⟨q, 0, none⟩) NQ1.out).trans Q1.out; have e2 := (hv.cell (p := ⟨w.heap.size, 2, none⟩) R1.out.lt).trans C2.out; have y0 := (hv.cell (p := ⟨b0, off + k * 4, none⟩) LB1.out).trans CY1.out; go_simp; rfl)); go_simp)
      (refine h_read 15 rfl (by kernel_rfl) (by kernel_rfl) (h_free rfl) ?_ ?_ ?_; rotate_left; (focus (intro v hv; go_simp; rfl)); go_simp)
      (refine h_read 16 rfl (by kernel_rfl) (by kernel_rfl) (h_free rfl) ?_ ?_ ?_; rotate_left; (focus (intro v hv; go_simp; rfl)); go_simp)
      (refine h_read 17 rfl (by kernel_rfl) (by kernel_rfl) (h_free rfl) ?_ ?_ ?_; rotate_left; (focus (intro v hv; have q0 := (hv.cell (p := ⟨q, 0, none⟩) NQ1.out).trans Q1.out; have e2 := (hv.cell (p := ⟨w.heap.size, 2, none⟩) R1.out.lt).trans C2.out; have y0 := (hv.cell (p := ⟨b0, off + k * 4, none⟩) LB1.out).trans CY1.out; go_simp; rfl)); go_simp)
      (refine h_read 18 rfl (by kernel_rfl) (by kernel_rfl) (h_free rfl) ?_ ?_ ?_; rotate_left; (focus (intro v hv; go_simp; rfl)); go_simp)
      refine h_done (by kernel_rfl) ?_
      go_wp2_with fail
      go_meet
      case rel => exact ⟨rfl, J0⟩
  case rest =>
    obtain ⟨rfl, BC⟩ := hcut
    have R1 := Lib.hid (R1.out.below BC.out R1.out.lt)
    have B1 := Lib.hid (B1.out.trans (BC.out.mono B1.out.size))
    clear BC
    obtain ⟨w1, rfl⟩ : ∃ x : World, x = wc := ⟨_, rfl⟩
    obtain ⟨g5, hg5⟩ : ∃ g, w.heap.size = g := ⟨_, rfl⟩
    have P1 := Lib.hid (HP.out.mono B1.out)
    have K1 := Lib.hid (HK.out.below B1.out HK.out.pos)
    have I1 := Lib.hid (show Below wI.heap.size wI w1 by rw [HBI.out]; exact HBW.out.trans (B1.out.mono hszb))
    have BW1 := Lib.hid (show Below base w w1 from B1.out.mono hszb)
    have Z1 := Lib.hid (show base ≤ w1.heap.size from Nat.le_trans hszb B1.out.size)
    have ZW := Lib.hid (show w.heap.size ≤ w1.heap.size from B1.out.size)
    have Z5 := Lib.hid R1.out.lt
    have N5S := Lib.hid (show ¬ S g5 from fun e => by have := NS.out g5 e; omega)
    have N5T := Lib.hid (show ¬ T g5 from fun e => by have := NT.out g5 e; omega)
    rw [hg5] at R1 NS NT NQ c4 Z5 ZW ⊢
    clear c4
    obtain ⟨c0, c1, c2, c3, c4, c5, c6, c7⟩ := R1.out.d8
    clear c1 c2 c3 c4 c5 c6 c7
    obtain ⟨GS, hgs⟩ : ∃ GS, (L.filter fun f => !intactC f).map (·.s) = GS := ⟨_, rfl⟩
    have HFS := Lib.hid (show ∀ x ∈ GS, x.size ≤ maxLen by
      rw [← hgs]
      intro x hx
      obtain ⟨f, hf, rfl⟩ := List.mem_map.1 hx
      have := (HS.out.ok f (List.mem_filter.1 hf).1).s
      unfold maxLen; omega)
    obtain ⟨gl, hgl⟩ : ∃ gl, GS.length = gl := ⟨_, rfl⟩
    have HGL := Lib.hid hgl
    have HGS := Lib.hid hgs
    have Q := qscrub P1.out Z1.out HS.out K1.out hp
    rw [HL2.out, hgs] at Q
    have HQ := Lib.hid Q
    clear Q hgs hgl
    go_wp2_with (first
      | (go_at_call 31; (with_reducible refine HQ.out.mono ?_); rintro e w2 ⟨v, rfl, hl, hst⟩; obtain ⟨⟨S', hp2, hS'⟩, hft⟩ := hst; obtain ⟨ga, gc, rfl, hls, -⟩ := hl.ls strOk HFS.out; rw [HGL.out] at hl ⊢; have OB := Lib.hid (fun k e => World.ownsRow.lt hl k e); have P2' := Lib.hid hp2; have Z2 := Lib.hid (Nat.le_trans Z1.out hft.size); have F2 := Lib.hid (hft.below Z1.out P1.out.sb); have QX := xscrub hp2 Z2.out HS.out; rw [HL2.out, HGS.out] at QX; have HQX := Lib.hid QX; have LO := Lib.hid hl; clear hp2 hS' hft hl hls QX)
      | (go_at_call 45; (with_reducible refine HQX.out.mono ?_); rintro e w3 ⟨v, rfl, hl, hst⟩; obtain ⟨⟨T', hp3, hT'⟩, hft⟩ := hst; obtain ⟨gb, gd, rfl, hls, -⟩ := hl.ls strOk HFS.out; rw [HGL.out] at hls ⊢; have P3 := Lib.hid hp3; have F3 := Lib.hid (hft.below Z2.out P2'.out.tb); have LA3 := ls_of_own (LO.out.keep fun k e => hft.block k (OB.out k e).2 (fun hs => by have h1 := NT.out k hs; have h2 := (OB.out k e).1; have h3 := ZW.out; omega)) HFS.out HGL.out; have E3 := Lib.hid (strequal ga gb gl gc gl gd GS GS w3 true LA3 hls (by simp)); clear hp3 hT' hft hl hls LA3)
      | (go_at_call 44; (with_reducible refine E3.out.mono ?_); rintro e w4 ⟨rfl, hb⟩; have P4 := Lib.hid (P3.out.mono hb); have F4 := Lib.hid (F3.out.trans (hb.mono (Nat.le_trans Z2.out (F3.out.size)))); clear hb))
    go_ret
    exact ⟨rfl, ⟨S', T', P4.out⟩, BW1.out.trans (F2.out.trans F4.out)⟩
end Go.Proofs.YtkfhppbmnjmnoaaGreatDoor.W
