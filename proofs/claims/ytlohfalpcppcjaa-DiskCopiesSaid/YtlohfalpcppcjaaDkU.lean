/- CONTRACTS of layer 9 (disk): the reference's Crash. -/
import Derived.Test.YtlohfalpcppcjaaDkT
set_option linter.unusedSimpArgs false
set_option linter.unusedVariables false
namespace Go.Proofs.Ytlohfalpcppcjaa.W
open Go Go.ChangeShapes Go.WideShapes Go.ChangeAt Go.RowKit

/-- of so many bytes that are not sure the next one of keeps stays -/
def keepV (ks : List Int) (nx : Nat) (loose : Int) : Int := if ks.length = 0 then 0 else min (max (ks.getD (nx % ks.length) 0) 0) loose
theorem keepV_le (ks : List Int) (nx : Nat) (loose : Int) (h : 0 ≤ loose) : 0 ≤ keepV ks nx loose ∧ keepV ks nx loose ≤ loose := by
  unfold keepV
  split <;> omega
/-- the first slots behind a crash: bytes, how many are sure, which keep is next -/
def crN (ks : List Int) (Bs : List (List UInt8)) (Ss : List Int) : Nat → List (List UInt8) × List Int × Nat
  | 0 => (Bs, Ss, 0)
  | k + 1 =>
    if (((crN ks Bs Ss k).1.getD k []).length : Int) - (crN ks Bs Ss k).2.1.getD k 0 = 0 then crN ks Bs Ss k
    else ((crN ks Bs Ss k).1.set k (((crN ks Bs Ss k).1.getD k []).take ((crN ks Bs Ss k).2.1.getD k 0 + keepV ks (crN ks Bs Ss k).2.2 ((((crN ks Bs Ss k).1.getD k []).length : Int) - (crN ks Bs Ss k).2.1.getD k 0)).toNat),
      (crN ks Bs Ss k).2.1.set k ((crN ks Bs Ss k).2.1.getD k 0 + keepV ks (crN ks Bs Ss k).2.2 ((((crN ks Bs Ss k).1.getD k []).length : Int) - (crN ks Bs Ss k).2.1.getD k 0)), (crN ks Bs Ss k).2.2 + 1)
theorem Ft.block_cell {F : Nat → Prop} {w w' : World} (h : Ft F w w') {p : Addr} (hp : p.block < w.heap.size) (hn : ¬ F p.block) : w'.cell? p = w.cell? p := World.cell?_of_block (h.block p.block hp hn)
theorem crN_len (ks : List Int) (Bs : List (List UInt8)) (Ss : List Int) : ∀ k, (crN ks Bs Ss k).1.length = Bs.length ∧ (crN ks Bs Ss k).2.2 ≤ k
  | 0 => ⟨rfl, Nat.le_refl _⟩
  | k + 1 => by
    have ih := crN_len ks Bs Ss k
    unfold crN
    split
    · exact ⟨ih.1, by omega⟩
    · exact ⟨by simp [ih.1], by dsimp only; omega⟩
theorem DSure.step {Bs : List (List UInt8)} {Ss : List Int} (h : DSure Bs Ss) (hls : Ss.length = Bs.length) (k : Nat) (hk : k < Bs.length) (l : List UInt8) (z : Int) (hz : 0 ≤ z ∧ z ≤ l.length) : DSure (Bs.set k l) (Ss.set k z) := by
  intro i hi
  have hb : (Bs.set k l).getD i [] = if i = k then l else Bs.getD i [] := by
    simp only [List.getD_eq_getElem?_getD, List.getElem?_set]
    by_cases hik : k = i
    · subst hik; simp [hk]
    · rw [if_neg hik, if_neg (fun e => hik e.symm)]
  have hs : (Ss.set k z).getD i 0 = if i = k then z else Ss.getD i 0 := by
    simp only [List.getD_eq_getElem?_getD, List.getElem?_set]
    by_cases hik : k = i
    · subst hik; simp [hls, hk]
    · rw [if_neg hik, if_neg (fun e => hik e.symm)]
  rw [hb, hs]
  split
  · exact hz
  · exact h i (by simpa using hi)

set_option maxRecDepth 100000 in
set_option maxHeartbeats 4000000 in
theorem xcrash (p gb gs : Nat) (vs : List Sv) (S : Nat → Prop) (Bs : List (List UInt8)) (Ss : List Int) (most : Int) (ka : Option Addr) (kl kc : Nat) (ks : List Int) (w : World) (h : DX w p gb gs vs S Bs Ss most) (hS : DSure Bs Ss) (hk : Sl .i64 w ka kl ks) (hka : kl ≠ 0 → ∀ b off, ka = some ⟨b, off, none⟩ → ¬ S b) :
    Calls Try.prog 30 #[.pointer (some ⟨p, 0, none⟩), .slice ka kl kc] w fun e w' => e = .returned (.tuple #[]) ∧ ∃ vs' S', DX w' p gb gs vs' S' (crN ks Bs Ss Bs.length).1 (crN ks Bs Ss Bs.length).2.1 most ∧ DSure (crN ks Bs Ss Bs.length).1 (crN ks Bs Ss Bs.length).2.1 ∧ Ft S w w' ∧ Grew w S S' := by
  have HX := Lib.hid h
  have HS := Lib.hid hS
  have HKS := Lib.hid hk
  have HKA := Lib.hid hka
  have hp0 := h.p0
  have hn16 := h.n16
  obtain ⟨n, hnn⟩ : ∃ n, Bs.length = n := ⟨_, rfl⟩
  rw [hnn] at hn16 ⊢
  have HNN := Lib.hid hnn
  have hkll := hk.1
  have hkm := hk.2.1
  clear h hS hnn hk hka
  go_enter Try.func30, Try.ntmps30
  go_wp2_with fail
  go_loopw [4, 5] (fun v i wr => ∃ (k nx : Nat) (vs' : List Sv) (S' : Nat → Prop), v = .int .i64 (nx : Int) ∧ nx = (crN ks Bs Ss k).2.2 ∧ i = .int .i64 (k : Int) ∧ k ≤ n ∧ Hid (DX wr p gb gs vs' S' (crN ks Bs Ss k).1 (crN ks Bs Ss k).2.1 most) ∧ Hid (DSure (crN ks Bs Ss k).1 (crN ks Bs Ss k).2.1) ∧ Hid (Ft S w wr) ∧ Hid (Grew w S S')) (fun _ i _ => n - (intOf i).toNat)
  case atStart => exact ⟨0, 0, vs, S, rfl, rfl, rfl, Nat.zero_le _, HX, HS, Lib.hid (Ft.refl _ _), Lib.hid (Grew.refl _ _)⟩
  case round =>
    obtain ⟨k, nx, vs', S', rfl, hnx, rfl, hk, X, D, F, G⟩ := hrel
    have hcl := crN_len ks Bs Ss k
    rw [← hnx, HNN.out] at hcl
    obtain ⟨hcl1, hcl2⟩ := hcl
    have hstep : crN ks Bs Ss (k + 1) = _ := crN.eq_2 ks Bs Ss k
    rw [← hnx] at hstep
    obtain ⟨Bk, Sk, nk, hck⟩ : ∃ x y z, crN ks Bs Ss k = (x, y, z) := ⟨_, _, _, rfl⟩
    rw [hck] at X D hcl1 hstep hnx
    dsimp only at X D hcl1 hstep hnx
    have HNB := Lib.hid hcl1
    have HCK := Lib.hid hck
    obtain ⟨x0, x1, x2⟩ := X.out.rp.t3
    rw [HNB.out] at x0 x1
    have X0 := Lib.hid x0
    have X1 := Lib.hid x1
    clear x1 x2 hcl1 hck
    by_cases hlt : k < n
    · have hk' : k < Bk.length := by rw [HNB.out]; exact hlt
      obtain ⟨va, vn, vc, hv, xb, hrk⟩ := X.out.at k hk'
      have hlen := X.out.len k
      have hvn := hrk.hlen
      have hvc := hrk.hle
      have xs := X.out.cs k hk'
      have hs1 := D.out k hk'
      obtain ⟨L, hL⟩ : ∃ L, Bk.getD k [] = L := ⟨_, rfl⟩
      obtain ⟨sn, hsn⟩ : ∃ sn : Nat, Sk.getD k 0 = sn := ⟨(Sk.getD k 0).toNat, by omega⟩
      rw [hL] at hstep hlen hvn hrk hs1
      rw [hsn] at hstep xs hs1
      rw [hvn] at hstep hlen hs1
      have XB := Lib.hid xb
      have XS := Lib.hid xs
      have HRK := Lib.hid hrk
      have HVN := Lib.hid hvn
      have HL := Lib.hid hL
      have HSN := Lib.hid hsn
      have hle : sn ≤ vn := by omega
      have hw0 : IntKind.i64.wrap ((vn : Int) - sn) = (vn : Int) - sn := by rw [IntKind.wrap_i64]; omega
      have HST := Lib.hid hstep
      have HNX := Lib.hid hnx
      clear hv xb xs hrk hL hsn hs1 hstep hnx
      go_wp2_with fail
      clear x0
      refine region_w (C := fun v => Below wr.heap.size wr v) (by kernel_rfl) (by kernel_rfl) (Below.refl _ _).drew ?_
      repeat (first
        | (refine w_read (wanted_free rfl) ?_ ?_ ?_; rotate_left; (focus (intro v hv; have x0 := (hv.cell (p := ⟨p, 0, none⟩) X.out.rp.lt).trans X0.out; have x1 := (hv.cell (p := ⟨p, 1, none⟩) X.out.rp.lt).trans X1.out; have xb := (hv.cell (p := ⟨gb, k, none⟩) X.out.rb.lt).trans XB.out; have xs := (hv.cell (p := ⟨gs, k, none⟩) X.out.rs.lt).trans XS.out; go_simp; rfl)); go_simp))
      refine w_nil ?_
      intro w4 hb4
      have X4 := Lib.hid (X.out.mono hb4)
      have F4 := Lib.hid (F.out.trans (Ft.of_below hb4))
      have K4 := Lib.hid (HRK.out.mono hb4)
      have Y0 := Lib.hid ((hb4.cell (p := ⟨p, 0, none⟩) X.out.rp.lt).trans X0.out)
      have Y1 := Lib.hid ((hb4.cell (p := ⟨p, 1, none⟩) X.out.rp.lt).trans X1.out)
      have YB := Lib.hid ((hb4.cell (p := ⟨gb, k, none⟩) X.out.rb.lt).trans XB.out)
      have YS := Lib.hid ((hb4.cell (p := ⟨gs, k, none⟩) X.out.rs.lt).trans XS.out)
      clear hb4
      by_cases h0 : vn = sn
      · have hz : ((vn : Int) - sn == 0) = true := by rw [h0]; simp
        have HSE := Lib.hid (show crN ks Bs Ss (k + 1) = (Bk, Sk, nx) by rw [HST.out, if_pos (by omega), ← HNX.out])
        go_wp2_with fail
        go_roundw
        case rel => exact ⟨k + 1, nx, vs', S', rfl, by rw [HSE.out], vint (by omega), by omega, Lib.hid (by rw [HSE.out]; exact X4.out), Lib.hid (by rw [HSE.out]; exact D.out), F4, G⟩
        case measure => simp [intOf]; omega
      · have hnz : ((vn : Int) - sn == 0) = false := by simp; omega
        have hlp : 0 ≤ (vn : Int) - sn := by omega
        have hkv := keepV_le ks nx ((vn : Int) - sn) hlp
        by_cases hkz : kl = 0
        · have hkeep : keepV ks nx ((vn : Int) - sn) = 0 := by unfold keepV; rw [if_pos (by omega)]
          obtain ⟨q, hq⟩ : ∃ q : Nat, q = sn := ⟨_, rfl⟩
          have HSE := Lib.hid (show crN ks Bs Ss (k + 1) = (Bk.set k (L.take q), Sk.set k (q : Int), nx + 1) by rw [HST.out, if_neg (by omega), hkeep]; rw [show ((sn : Int) + 0) = (q : Int) by omega]; simp)
          have hqv : q ≤ vn := by omega
          have hqc : q ≤ vc := by omega
          have hwq0 : IntKind.i64.wrap ((sn : Int)) = (q : Int) := by rw [IntKind.wrap_i64]; omega
          have HQ := Lib.hid hq
          clear hq hkeep hkv
          subst hkz
          go_wp2_with fail
          have D5 : Hid (Below w4.heap.size w4 w4.drew) := Lib.hid (Below.refl _ _).drew
          refine region_t (fun v => Below w4.heap.size w4 v) 24 (by kernel_rfl) (by kernel_rfl) (by kernel_rfl) D5.out ?_
          obtain ⟨wd, hwd⟩ : ∃ wd, w4.drew = wd := ⟨_, rfl⟩
          rw [hwd] at D5 ⊢
          clear hwd
          (refine t_read 0 rfl (by kernel_rfl) (by kernel_rfl) (by kernel_rfl) (t_free rfl) ?_ ?_ ?_; rotate_left; (focus (intro v hv; go_simp; rfl)); go_simp)
          (refine t_read 1 rfl (by kernel_rfl) (by kernel_rfl) (by kernel_rfl) (t_free rfl) ?_ ?_ ?_; rotate_left; (focus (intro v hv; go_simp; rfl)); go_simp)
          (refine t_read 2 rfl (by kernel_rfl) (by kernel_rfl) (by kernel_rfl) (t_free rfl) ?_ ?_ ?_; rotate_left; (focus (intro v hv; go_simp; rfl)); go_simp)
          (refine t_read 3 rfl (by kernel_rfl) (by kernel_rfl) (by kernel_rfl) (t_free rfl) ?_ ?_ ?_; rotate_left; (focus (intro v hv; have y0 := (hv.cell (p := ⟨p, 0, none⟩) X4.out.rp.lt).trans Y0.out; have y1 := (hv.cell (p := ⟨p, 1, none⟩) X4.out.rp.lt).trans Y1.out; have yb := (hv.cell (p := ⟨gb, k, none⟩) X4.out.rb.lt).trans YB.out; have ys := (hv.cell (p := ⟨gs, k, none⟩) X4.out.rs.lt).trans YS.out; go_simp; rfl)); go_simp)
          (refine t_read 4 rfl (by kernel_rfl) (by kernel_rfl) (by kernel_rfl) (t_free rfl) ?_ ?_ ?_; rotate_left; (focus (intro v hv; go_simp; rfl)); go_simp)
          (refine t_read 5 rfl (by kernel_rfl) (by kernel_rfl) (by kernel_rfl) (t_free rfl) ?_ ?_ ?_; rotate_left; (focus (intro v hv; go_simp; rfl)); go_simp)
          (refine t_read 6 rfl (by kernel_rfl) (by kernel_rfl) (by kernel_rfl) (t_free rfl) ?_ ?_ ?_; rotate_left; (focus (intro v hv; go_simp; rfl)); go_simp)
          (refine t_read 7 rfl (by kernel_rfl) (by kernel_rfl) (by kernel_rfl) (t_free rfl) ?_ ?_ ?_; rotate_left; (focus (intro v hv; go_simp; rfl)); go_simp)
          (refine t_read 8 rfl (by kernel_rfl) (by kernel_rfl) (by kernel_rfl) (t_free rfl) ?_ ?_ ?_; rotate_left; (focus (intro v hv; have y0 := (hv.cell (p := ⟨p, 0, none⟩) X4.out.rp.lt).trans Y0.out; have y1 := (hv.cell (p := ⟨p, 1, none⟩) X4.out.rp.lt).trans Y1.out; have yb := (hv.cell (p := ⟨gb, k, none⟩) X4.out.rb.lt).trans YB.out; have ys := (hv.cell (p := ⟨gs, k, none⟩) X4.out.rs.lt).trans YS.out; go_simp; rfl)); go_simp)
          (refine t_read 9 rfl (by kernel_rfl) (by kernel_rfl) (by kernel_rfl) (t_free rfl) ?_ ?_ ?_; rotate_left; (focus (intro v hv; go_simp; rfl)); go_simp)
          (refine t_read 10 rfl (by kernel_rfl) (by kernel_rfl) (by kernel_rfl) (t_free rfl) ?_ ?_ ?_; rotate_left; (focus (intro v hv; go_simp; rfl)); go_simp)
          (refine t_read 11 rfl (by kernel_rfl) (by kernel_rfl) (by kernel_rfl) (t_free rfl) ?_ ?_ ?_; rotate_left; (focus (intro v hv; have y0 := (hv.cell (p := ⟨p, 0, none⟩) X4.out.rp.lt).trans Y0.out; have y1 := (hv.cell (p := ⟨p, 1, none⟩) X4.out.rp.lt).trans Y1.out; have yb := (hv.cell (p := ⟨gb, k, none⟩) X4.out.rb.lt).trans YB.out; have ys := (hv.cell (p := ⟨gs, k, none⟩) X4.out.rs.lt).trans YS.out; go_simp; rfl)); go_simp)
          (refine t_read 12 rfl (by kernel_rfl) (by kernel_rfl) (by kernel_rfl) (t_free rfl) ?_ ?_ ?_; rotate_left; (focus (intro v hv; go_simp; rfl)); go_simp)
          (refine t_read 13 rfl (by kernel_rfl) (by kernel_rfl) (by kernel_rfl) (t_free rfl) ?_ ?_ ?_; rotate_left; (focus (intro v hv; go_simp; rfl)); go_simp)
          (refine t_read 14 rfl (by kernel_rfl) (by kernel_rfl) (by kernel_rfl) (t_free rfl) ?_ ?_ ?_; rotate_left; (focus (intro v hv; go_simp; rfl)); go_simp)
          (refine t_read 15 rfl (by kernel_rfl) (by kernel_rfl) (by kernel_rfl) (t_free rfl) ?_ ?_ ?_; rotate_left; (focus (intro v hv; have y0 := (hv.cell (p := ⟨p, 0, none⟩) X4.out.rp.lt).trans Y0.out; have y1 := (hv.cell (p := ⟨p, 1, none⟩) X4.out.rp.lt).trans Y1.out; have yb := (hv.cell (p := ⟨gb, k, none⟩) X4.out.rb.lt).trans YB.out; have ys := (hv.cell (p := ⟨gs, k, none⟩) X4.out.rs.lt).trans YS.out; go_simp; rfl)); go_simp)
          (refine t_read 16 rfl (by kernel_rfl) (by kernel_rfl) (by kernel_rfl) (t_free rfl) ?_ ?_ ?_; rotate_left; (focus (intro v hv; go_simp; rfl)); go_simp)
          (refine t_read 17 rfl (by kernel_rfl) (by kernel_rfl) (by kernel_rfl) (t_free rfl) ?_ ?_ ?_; rotate_left; (focus (intro v hv; go_simp; rfl)); go_simp)
          (refine t_read 18 rfl (by kernel_rfl) (by kernel_rfl) (by kernel_rfl) (t_free rfl) ?_ ?_ ?_; rotate_left; (focus (intro v hv; have y0 := (hv.cell (p := ⟨p, 0, none⟩) X4.out.rp.lt).trans Y0.out; have y1 := (hv.cell (p := ⟨p, 1, none⟩) X4.out.rp.lt).trans Y1.out; have yb := (hv.cell (p := ⟨gb, k, none⟩) X4.out.rb.lt).trans YB.out; have ys := (hv.cell (p := ⟨gs, k, none⟩) X4.out.rs.lt).trans YS.out; go_simp; rfl)); go_simp)
          (refine t_read 19 rfl (by kernel_rfl) (by kernel_rfl) (by kernel_rfl) (t_free rfl) ?_ ?_ ?_; rotate_left; (focus (intro v hv; go_simp; rfl)); go_simp)
          (refine t_read 20 rfl (by kernel_rfl) (by kernel_rfl) (by kernel_rfl) (t_free rfl) ?_ ?_ ?_; rotate_left; (focus (intro v hv; go_simp; rfl)); go_simp)
          (refine t_read 21 rfl (by kernel_rfl) (by kernel_rfl) (by kernel_rfl) (t_free rfl) ?_ ?_ ?_; rotate_left; (focus (intro v hv; go_simp; rfl)); go_simp)
          (refine t_list 22 rfl (by kernel_rfl) rfl ?_; intro K hK)
          refine append_rd rfl _ _ rfl w4.heap.size _ [] rfl (Fr.nil _ _) va q vc (L.take q) (by go_simp) ((K4.out.mono D5.out).take q hqv) (by simp; omega) D5.out.size ?_
          intro v6 w6 hf6 hb6 _
          rw [List.nil_append] at hf6
          obtain ⟨a6, c6, hv6, hr6⟩ := hf6.form' q (by rw [List.length_take, HVN.out]; omega)
          subst hv6
          have F6 := Lib.hid hf6
          have R6 := Lib.hid hr6
          have D6 := Lib.hid (D5.out.trans hb6)
          clear hf6 hb6 hr6
          refine hK _ _ D6.out ?_
          go_simp
          (refine t_read 23 rfl (by kernel_rfl) (by kernel_rfl) (by kernel_rfl) (t_free rfl) ?_ ?_ ?_; rotate_left; (focus (intro v hv; go_simp; rfl)); go_simp)
          (refine t_last 24 rfl (by kernel_rfl) rfl (by kernel_rfl) (by kernel_rfl) ?_; intro K hK)
          have X6 := X4.out.mono D6.out
          refine store_cell rfl _ _ _ rfl gb k (.slice a6 q c6) (by go_simp) (by go_simp) rfl rfl 30 _ X6.rb infoBytes (by rw [List.length_map, X6.lv]; exact hk') ?_
          intro w7 hr7 hu7
          refine hK _ _ ?_
          have hnew := F6.out.new
          have X7 := Lib.hid (X6.put k hk' (a6, q, c6) (L.take q) hu7 hr7 R6.out (fun b off e => (hnew b off e).2) (by rw [List.length_take, HVN.out]; omega))
          have F7 := Lib.hid ((F4.out.on (Ft.of_below (F := S') D6.out) (fun b hb => G.out b hb)).on (Ft.of_upd (F := S') hu7 X6.sb) (fun b hb => G.out b hb))
          have G7 : Hid (Grew w S (fun b => S' b ∨ ∃ off, (a6, q, c6).1 = some ⟨b, off, none⟩)) := Lib.hid (fun b hb => hb.elim (G.out b) fun ⟨off, e⟩ => .inr (Nat.le_trans F4.out.size (hnew b off e).1))
          have Z0 := Lib.hid (show w7.cell? ⟨p, 0, none⟩ = some (.slice (some ⟨gb, 0, none⟩) n n) by rw [hu7.cell (p := ⟨p, 0, none⟩) X6.pb, D6.out.cell (p := ⟨p, 0, none⟩) X4.out.rp.lt]; exact Y0.out)
          have Z1 := Lib.hid (show w7.cell? ⟨p, 1, none⟩ = some (.slice (some ⟨gs, 0, none⟩) n n) by rw [hu7.cell (p := ⟨p, 1, none⟩) X6.pb, D6.out.cell (p := ⟨p, 1, none⟩) X4.out.rp.lt]; exact Y1.out)
          have ZB := Lib.hid (show w7.cell? ⟨gb, k, none⟩ = some (.slice a6 q c6) by have hz := hr7.cellV k; rw [List.getElem?_set_self (by rw [List.length_map, X6.lv]; exact hk')] at hz; exact hz)
          clear hr7 hu7 hnew X6
          go_simp
          go_wp2_with fail
          have D8 : Hid (Below w7.heap.size w7 w7.drew) := Lib.hid (Below.refl _ _).drew
          refine region_t (fun v => Below w7.heap.size w7 v) 14 (by kernel_rfl) (by kernel_rfl) (by kernel_rfl) D8.out ?_
          obtain ⟨we, hwe⟩ : ∃ we, w7.drew = we := ⟨_, rfl⟩
          rw [hwe] at D8 ⊢
          clear hwe
          (refine t_read 0 rfl (by kernel_rfl) (by kernel_rfl) (by kernel_rfl) (t_free rfl) ?_ ?_ ?_; rotate_left; (focus (intro v hv; go_simp; rfl)); go_simp)
          (refine t_read 1 rfl (by kernel_rfl) (by kernel_rfl) (by kernel_rfl) (t_free rfl) ?_ ?_ ?_; rotate_left; (focus (intro v hv; go_simp; rfl)); go_simp)
          (refine t_read 2 rfl (by kernel_rfl) (by kernel_rfl) (by kernel_rfl) (t_free rfl) ?_ ?_ ?_; rotate_left; (focus (intro v hv; go_simp; rfl)); go_simp)
          (refine t_read 3 rfl (by kernel_rfl) (by kernel_rfl) (by kernel_rfl) (t_free rfl) ?_ ?_ ?_; rotate_left; (focus (intro v hv; have y0 := (hv.cell (p := ⟨p, 0, none⟩) X7.out.rp.lt).trans Z0.out; have y1 := (hv.cell (p := ⟨p, 1, none⟩) X7.out.rp.lt).trans Z1.out; have yb := (hv.cell (p := ⟨gb, k, none⟩) X7.out.rb.lt).trans ZB.out; go_simp; rfl)); go_simp)
          (refine t_read 4 rfl (by kernel_rfl) (by kernel_rfl) (by kernel_rfl) (t_free rfl) ?_ ?_ ?_; rotate_left; (focus (intro v hv; go_simp; rfl)); go_simp)
          (refine t_read 5 rfl (by kernel_rfl) (by kernel_rfl) (by kernel_rfl) (t_free rfl) ?_ ?_ ?_; rotate_left; (focus (intro v hv; go_simp; rfl)); go_simp)
          (refine t_read 6 rfl (by kernel_rfl) (by kernel_rfl) (by kernel_rfl) (t_free rfl) ?_ ?_ ?_; rotate_left; (focus (intro v hv; go_simp; rfl)); go_simp)
          (refine t_read 7 rfl (by kernel_rfl) (by kernel_rfl) (by kernel_rfl) (t_free rfl) ?_ ?_ ?_; rotate_left; (focus (intro v hv; go_simp; rfl)); go_simp)
          (refine t_read 8 rfl (by kernel_rfl) (by kernel_rfl) (by kernel_rfl) (t_free rfl) ?_ ?_ ?_; rotate_left; (focus (intro v hv; have y0 := (hv.cell (p := ⟨p, 0, none⟩) X7.out.rp.lt).trans Z0.out; have y1 := (hv.cell (p := ⟨p, 1, none⟩) X7.out.rp.lt).trans Z1.out; have yb := (hv.cell (p := ⟨gb, k, none⟩) X7.out.rb.lt).trans ZB.out; go_simp; rfl)); go_simp)
          (refine t_read 9 rfl (by kernel_rfl) (by kernel_rfl) (by kernel_rfl) (t_free rfl) ?_ ?_ ?_; rotate_left; (focus (intro v hv; go_simp; rfl)); go_simp)
          (refine t_read 10 rfl (by kernel_rfl) (by kernel_rfl) (by kernel_rfl) (t_free rfl) ?_ ?_ ?_; rotate_left; (focus (intro v hv; go_simp; rfl)); go_simp)
          (refine t_read 11 rfl (by kernel_rfl) (by kernel_rfl) (by kernel_rfl) (t_free rfl) ?_ ?_ ?_; rotate_left; (focus (intro v hv; have y0 := (hv.cell (p := ⟨p, 0, none⟩) X7.out.rp.lt).trans Z0.out; have y1 := (hv.cell (p := ⟨p, 1, none⟩) X7.out.rp.lt).trans Z1.out; have yb := (hv.cell (p := ⟨gb, k, none⟩) X7.out.rb.lt).trans ZB.out; go_simp; rfl)); go_simp)
          (refine t_read 12 rfl (by kernel_rfl) (by kernel_rfl) (by kernel_rfl) (t_free rfl) ?_ ?_ ?_; rotate_left; (focus (intro v hv; go_simp; rfl)); go_simp)
          (refine t_read 13 rfl (by kernel_rfl) (by kernel_rfl) (by kernel_rfl) (t_free rfl) ?_ ?_ ?_; rotate_left; (focus (intro v hv; go_simp; rfl)); go_simp)
          (refine t_last 14 rfl (by kernel_rfl) rfl (by kernel_rfl) (by kernel_rfl) ?_; intro K hK)
          have X9 := X7.out.mono D8.out
          refine store_cell rfl _ _ _ rfl gs k (.int .i64 (q : Int)) (by go_simp) (by go_simp) rfl rfl 3 _ X9.rs infoInt1 (by rw [List.length_map, X9.ls, List.length_set]; exact hk') ?_
          intro w10 hr10 hu10
          refine hK _ _ ?_
          have X10 := Lib.hid (X9.puts k (by rw [List.length_set]; exact hk') (q : Int) hu10 hr10)
          have F10 := Lib.hid ((F7.out.on (Ft.of_below (F := S') D8.out) (fun b hb => G.out b hb)).on (Ft.of_upd (F := S') hu10 X4.out.ss) (fun b hb => G.out b hb))
          have D10 := Lib.hid (D.out.step X4.out.ls k hk' (L.take q) (q : Int) ⟨by omega, by rw [List.length_take, HVN.out]; omega⟩)
          clear hr10 hu10 X9
          go_simp
          go_wp2_with fail
          go_roundw
          case rel => exact ⟨k + 1, nx + 1, _, _, vint (by omega), by rw [HSE.out], vint (by omega), by omega, Lib.hid (by rw [HSE.out]; exact X10.out), Lib.hid (by rw [HSE.out]; exact D10.out), F10, G7⟩
          case measure => simp [intOf]; omega
        · obtain ⟨kb, koff, rfl, hkb, hkc⟩ := HKS.out.2.2.2.resolve_left hkz
          have hj : nx % kl < kl := Nat.mod_lt _ (by omega)
          have ck := hkc (nx % kl) hj
          rw [← F4.out.block_cell (p := ⟨kb, koff + nx % kl, none⟩) hkb (HKA.out hkz kb koff rfl)] at ck
          have hkeep : keepV ks nx ((vn : Int) - sn) = min (max (ks.getD (nx % kl) 0) 0) ((vn : Int) - sn) := by unfold keepV; rw [if_neg (by omega), hkll]
          have hwf : (Lit.int .i64 (ks.getD (nx % kl) 0)).wf = true := by
            have hlt2 : nx % kl < ks.length := by rw [hkll]; exact hj
            rw [show ks.getD (nx % kl) 0 = ks[nx % kl] by simp [hlt2]]
            exact HKS.out.2.2.1 _ (List.getElem_mem hlt2)
          have hbd := bd hwf
          obtain ⟨kv, hkvv⟩ : ∃ kv, ks.getD (nx % kl) 0 = kv := ⟨_, rfl⟩
          rw [hkvv] at ck hkeep hbd
          have hrem : (nx : Int).tmod (kl : Int) = ((nx % kl : Nat) : Int) := by rw [Int.tmod_eq_emod_of_nonneg (by omega)]; simp
          have hkl0 : ((kl : Int) == 0) = false := by simp; omega
          have CK := Lib.hid ck
          clear hkvv hwf hkc
          by_cases hneg : kv < 0
          · have hkeep : keepV ks nx ((vn : Int) - sn) = 0 := by rw [hkeep]; omega
            obtain ⟨q, hq⟩ : ∃ q : Nat, q = sn := ⟨_, rfl⟩
            have HSE := Lib.hid (show crN ks Bs Ss (k + 1) = (Bk.set k (L.take q), Sk.set k (q : Int), nx + 1) by rw [HST.out, if_neg (by omega), hkeep]; rw [show ((sn : Int) + 0) = (q : Int) by omega]; simp)
            have hqv : q ≤ vn := by omega
            have hqc : q ≤ vc := by omega
            have hwq0 : IntKind.i64.wrap ((sn : Int)) = (q : Int) := by rw [IntKind.wrap_i64]; omega
            have HQ := Lib.hid hq
            clear hq hkeep hkv
            go_wp2_with fail
            have D5 : Hid (Below w4.heap.size w4 w4.drew) := Lib.hid (Below.refl _ _).drew
            refine region_t (fun v => Below w4.heap.size w4 v) 24 (by kernel_rfl) (by kernel_rfl) (by kernel_rfl) D5.out ?_
            obtain ⟨wd, hwd⟩ : ∃ wd, w4.drew = wd := ⟨_, rfl⟩
            rw [hwd] at D5 ⊢
            clear hwd
            (refine t_read 0 rfl (by kernel_rfl) (by kernel_rfl) (by kernel_rfl) (t_free rfl) ?_ ?_ ?_; rotate_left; (focus (intro v hv; go_simp; rfl)); go_simp)
            (refine t_read 1 rfl (by kernel_rfl) (by kernel_rfl) (by kernel_rfl) (t_free rfl) ?_ ?_ ?_; rotate_left; (focus (intro v hv; go_simp; rfl)); go_simp)
            (refine t_read 2 rfl (by kernel_rfl) (by kernel_rfl) (by kernel_rfl) (t_free rfl) ?_ ?_ ?_; rotate_left; (focus (intro v hv; go_simp; rfl)); go_simp)
            (refine t_read 3 rfl (by kernel_rfl) (by kernel_rfl) (by kernel_rfl) (t_free rfl) ?_ ?_ ?_; rotate_left; (focus (intro v hv; have y0 := (hv.cell (p := ⟨p, 0, none⟩) X4.out.rp.lt).trans Y0.out; have y1 := (hv.cell (p := ⟨p, 1, none⟩) X4.out.rp.lt).trans Y1.out; have yb := (hv.cell (p := ⟨gb, k, none⟩) X4.out.rb.lt).trans YB.out; have ys := (hv.cell (p := ⟨gs, k, none⟩) X4.out.rs.lt).trans YS.out; go_simp; rfl)); go_simp)
            (refine t_read 4 rfl (by kernel_rfl) (by kernel_rfl) (by kernel_rfl) (t_free rfl) ?_ ?_ ?_; rotate_left; (focus (intro v hv; go_simp; rfl)); go_simp)
            (refine t_read 5 rfl (by kernel_rfl) (by kernel_rfl) (by kernel_rfl) (t_free rfl) ?_ ?_ ?_; rotate_left; (focus (intro v hv; go_simp; rfl)); go_simp)
            (refine t_read 6 rfl (by kernel_rfl) (by kernel_rfl) (by kernel_rfl) (t_free rfl) ?_ ?_ ?_; rotate_left; (focus (intro v hv; go_simp; rfl)); go_simp)
            (refine t_read 7 rfl (by kernel_rfl) (by kernel_rfl) (by kernel_rfl) (t_free rfl) ?_ ?_ ?_; rotate_left; (focus (intro v hv; go_simp; rfl)); go_simp)
            (refine t_read 8 rfl (by kernel_rfl) (by kernel_rfl) (by kernel_rfl) (t_free rfl) ?_ ?_ ?_; rotate_left; (focus (intro v hv; have y0 := (hv.cell (p := ⟨p, 0, none⟩) X4.out.rp.lt).trans Y0.out; have y1 := (hv.cell (p := ⟨p, 1, none⟩) X4.out.rp.lt).trans Y1.out; have yb := (hv.cell (p := ⟨gb, k, none⟩) X4.out.rb.lt).trans YB.out; have ys := (hv.cell (p := ⟨gs, k, none⟩) X4.out.rs.lt).trans YS.out; go_simp; rfl)); go_simp)
            (refine t_read 9 rfl (by kernel_rfl) (by kernel_rfl) (by kernel_rfl) (t_free rfl) ?_ ?_ ?_; rotate_left; (focus (intro v hv; go_simp; rfl)); go_simp)
            (refine t_read 10 rfl (by kernel_rfl) (by kernel_rfl) (by kernel_rfl) (t_free rfl) ?_ ?_ ?_; rotate_left; (focus (intro v hv; go_simp; rfl)); go_simp)
            (refine t_read 11 rfl (by kernel_rfl) (by kernel_rfl) (by kernel_rfl) (t_free rfl) ?_ ?_ ?_; rotate_left; (focus (intro v hv; have y0 := (hv.cell (p := ⟨p, 0, none⟩) X4.out.rp.lt).trans Y0.out; have y1 := (hv.cell (p := ⟨p, 1, none⟩) X4.out.rp.lt).trans Y1.out; have yb := (hv.cell (p := ⟨gb, k, none⟩) X4.out.rb.lt).trans YB.out; have ys := (hv.cell (p := ⟨gs, k, none⟩) X4.out.rs.lt).trans YS.out; go_simp; rfl)); go_simp)
            (refine t_read 12 rfl (by kernel_rfl) (by kernel_rfl) (by kernel_rfl) (t_free rfl) ?_ ?_ ?_; rotate_left; (focus (intro v hv; go_simp; rfl)); go_simp)
            (refine t_read 13 rfl (by kernel_rfl) (by kernel_rfl) (by kernel_rfl) (t_free rfl) ?_ ?_ ?_; rotate_left; (focus (intro v hv; go_simp; rfl)); go_simp)
            (refine t_read 14 rfl (by kernel_rfl) (by kernel_rfl) (by kernel_rfl) (t_free rfl) ?_ ?_ ?_; rotate_left; (focus (intro v hv; go_simp; rfl)); go_simp)
            (refine t_read 15 rfl (by kernel_rfl) (by kernel_rfl) (by kernel_rfl) (t_free rfl) ?_ ?_ ?_; rotate_left; (focus (intro v hv; have y0 := (hv.cell (p := ⟨p, 0, none⟩) X4.out.rp.lt).trans Y0.out; have y1 := (hv.cell (p := ⟨p, 1, none⟩) X4.out.rp.lt).trans Y1.out; have yb := (hv.cell (p := ⟨gb, k, none⟩) X4.out.rb.lt).trans YB.out; have ys := (hv.cell (p := ⟨gs, k, none⟩) X4.out.rs.lt).trans YS.out; go_simp; rfl)); go_simp)
            (refine t_read 16 rfl (by kernel_rfl) (by kernel_rfl) (by kernel_rfl) (t_free rfl) ?_ ?_ ?_; rotate_left; (focus (intro v hv; go_simp; rfl)); go_simp)
            (refine t_read 17 rfl (by kernel_rfl) (by kernel_rfl) (by kernel_rfl) (t_free rfl) ?_ ?_ ?_; rotate_left; (focus (intro v hv; go_simp; rfl)); go_simp)
            (refine t_read 18 rfl (by kernel_rfl) (by kernel_rfl) (by kernel_rfl) (t_free rfl) ?_ ?_ ?_; rotate_left; (focus (intro v hv; have y0 := (hv.cell (p := ⟨p, 0, none⟩) X4.out.rp.lt).trans Y0.out; have y1 := (hv.cell (p := ⟨p, 1, none⟩) X4.out.rp.lt).trans Y1.out; have yb := (hv.cell (p := ⟨gb, k, none⟩) X4.out.rb.lt).trans YB.out; have ys := (hv.cell (p := ⟨gs, k, none⟩) X4.out.rs.lt).trans YS.out; go_simp; rfl)); go_simp)
            (refine t_read 19 rfl (by kernel_rfl) (by kernel_rfl) (by kernel_rfl) (t_free rfl) ?_ ?_ ?_; rotate_left; (focus (intro v hv; go_simp; rfl)); go_simp)
            (refine t_read 20 rfl (by kernel_rfl) (by kernel_rfl) (by kernel_rfl) (t_free rfl) ?_ ?_ ?_; rotate_left; (focus (intro v hv; go_simp; rfl)); go_simp)
            (refine t_read 21 rfl (by kernel_rfl) (by kernel_rfl) (by kernel_rfl) (t_free rfl) ?_ ?_ ?_; rotate_left; (focus (intro v hv; go_simp; rfl)); go_simp)
            (refine t_list 22 rfl (by kernel_rfl) rfl ?_; intro K hK)
            refine append_rd rfl _ _ rfl w4.heap.size _ [] rfl (Fr.nil _ _) va q vc (L.take q) (by go_simp) ((K4.out.mono D5.out).take q hqv) (by simp; omega) D5.out.size ?_
            intro v6 w6 hf6 hb6 _
            rw [List.nil_append] at hf6
            obtain ⟨a6, c6, hv6, hr6⟩ := hf6.form' q (by rw [List.length_take, HVN.out]; omega)
            subst hv6
            have F6 := Lib.hid hf6
            have R6 := Lib.hid hr6
            have D6 := Lib.hid (D5.out.trans hb6)
            clear hf6 hb6 hr6
            refine hK _ _ D6.out ?_
            go_simp
            (refine t_read 23 rfl (by kernel_rfl) (by kernel_rfl) (by kernel_rfl) (t_free rfl) ?_ ?_ ?_; rotate_left; (focus (intro v hv; go_simp; rfl)); go_simp)
            (refine t_last 24 rfl (by kernel_rfl) rfl (by kernel_rfl) (by kernel_rfl) ?_; intro K hK)
            have X6 := X4.out.mono D6.out
            refine store_cell rfl _ _ _ rfl gb k (.slice a6 q c6) (by go_simp) (by go_simp) rfl rfl 30 _ X6.rb infoBytes (by rw [List.length_map, X6.lv]; exact hk') ?_
            intro w7 hr7 hu7
            refine hK _ _ ?_
            have hnew := F6.out.new
            have X7 := Lib.hid (X6.put k hk' (a6, q, c6) (L.take q) hu7 hr7 R6.out (fun b off e => (hnew b off e).2) (by rw [List.length_take, HVN.out]; omega))
            have F7 := Lib.hid ((F4.out.on (Ft.of_below (F := S') D6.out) (fun b hb => G.out b hb)).on (Ft.of_upd (F := S') hu7 X6.sb) (fun b hb => G.out b hb))
            have G7 : Hid (Grew w S (fun b => S' b ∨ ∃ off, (a6, q, c6).1 = some ⟨b, off, none⟩)) := Lib.hid (fun b hb => hb.elim (G.out b) fun ⟨off, e⟩ => .inr (Nat.le_trans F4.out.size (hnew b off e).1))
            have Z0 := Lib.hid (show w7.cell? ⟨p, 0, none⟩ = some (.slice (some ⟨gb, 0, none⟩) n n) by rw [hu7.cell (p := ⟨p, 0, none⟩) X6.pb, D6.out.cell (p := ⟨p, 0, none⟩) X4.out.rp.lt]; exact Y0.out)
            have Z1 := Lib.hid (show w7.cell? ⟨p, 1, none⟩ = some (.slice (some ⟨gs, 0, none⟩) n n) by rw [hu7.cell (p := ⟨p, 1, none⟩) X6.pb, D6.out.cell (p := ⟨p, 1, none⟩) X4.out.rp.lt]; exact Y1.out)
            have ZB := Lib.hid (show w7.cell? ⟨gb, k, none⟩ = some (.slice a6 q c6) by have hz := hr7.cellV k; rw [List.getElem?_set_self (by rw [List.length_map, X6.lv]; exact hk')] at hz; exact hz)
            clear hr7 hu7 hnew X6
            go_simp
            go_wp2_with fail
            have D8 : Hid (Below w7.heap.size w7 w7.drew) := Lib.hid (Below.refl _ _).drew
            refine region_t (fun v => Below w7.heap.size w7 v) 14 (by kernel_rfl) (by kernel_rfl) (by kernel_rfl) D8.out ?_
            obtain ⟨we, hwe⟩ : ∃ we, w7.drew = we := ⟨_, rfl⟩
            rw [hwe] at D8 ⊢
            clear hwe
            (refine t_read 0 rfl (by kernel_rfl) (by kernel_rfl) (by kernel_rfl) (t_free rfl) ?_ ?_ ?_; rotate_left; (focus (intro v hv; go_simp; rfl)); go_simp)
            (refine t_read 1 rfl (by kernel_rfl) (by kernel_rfl) (by kernel_rfl) (t_free rfl) ?_ ?_ ?_; rotate_left; (focus (intro v hv; go_simp; rfl)); go_simp)
            (refine t_read 2 rfl (by kernel_rfl) (by kernel_rfl) (by kernel_rfl) (t_free rfl) ?_ ?_ ?_; rotate_left; (focus (intro v hv; go_simp; rfl)); go_simp)
            (refine t_read 3 rfl (by kernel_rfl) (by kernel_rfl) (by kernel_rfl) (t_free rfl) ?_ ?_ ?_; rotate_left; (focus (intro v hv; have y0 := (hv.cell (p := ⟨p, 0, none⟩) X7.out.rp.lt).trans Z0.out; have y1 := (hv.cell (p := ⟨p, 1, none⟩) X7.out.rp.lt).trans Z1.out; have yb := (hv.cell (p := ⟨gb, k, none⟩) X7.out.rb.lt).trans ZB.out; go_simp; rfl)); go_simp)
            (refine t_read 4 rfl (by kernel_rfl) (by kernel_rfl) (by kernel_rfl) (t_free rfl) ?_ ?_ ?_; rotate_left; (focus (intro v hv; go_simp; rfl)); go_simp)
            (refine t_read 5 rfl (by kernel_rfl) (by kernel_rfl) (by kernel_rfl) (t_free rfl) ?_ ?_ ?_; rotate_left; (focus (intro v hv; go_simp; rfl)); go_simp)
            (refine t_read 6 rfl (by kernel_rfl) (by kernel_rfl) (by kernel_rfl) (t_free rfl) ?_ ?_ ?_; rotate_left; (focus (intro v hv; go_simp; rfl)); go_simp)
            (refine t_read 7 rfl (by kernel_rfl) (by kernel_rfl) (by kernel_rfl) (t_free rfl) ?_ ?_ ?_; rotate_left; (focus (intro v hv; go_simp; rfl)); go_simp)
            (refine t_read 8 rfl (by kernel_rfl) (by kernel_rfl) (by kernel_rfl) (t_free rfl) ?_ ?_ ?_; rotate_left; (focus (intro v hv; have y0 := (hv.cell (p := ⟨p, 0, none⟩) X7.out.rp.lt).trans Z0.out; have y1 := (hv.cell (p := ⟨p, 1, none⟩) X7.out.rp.lt).trans Z1.out; have yb := (hv.cell (p := ⟨gb, k, none⟩) X7.out.rb.lt).trans ZB.out; go_simp; rfl)); go_simp)
            (refine t_read 9 rfl (by kernel_rfl) (by kernel_rfl) (by kernel_rfl) (t_free rfl) ?_ ?_ ?_; rotate_left; (focus (intro v hv; go_simp; rfl)); go_simp)
            (refine t_read 10 rfl (by kernel_rfl) (by kernel_rfl) (by kernel_rfl) (t_free rfl) ?_ ?_ ?_; rotate_left; (focus (intro v hv; go_simp; rfl)); go_simp)
            (refine t_read 11 rfl (by kernel_rfl) (by kernel_rfl) (by kernel_rfl) (t_free rfl) ?_ ?_ ?_; rotate_left; (focus (intro v hv; have y0 := (hv.cell (p := ⟨p, 0, none⟩) X7.out.rp.lt).trans Z0.out; have y1 := (hv.cell (p := ⟨p, 1, none⟩) X7.out.rp.lt).trans Z1.out; have yb := (hv.cell (p := ⟨gb, k, none⟩) X7.out.rb.lt).trans ZB.out; go_simp; rfl)); go_simp)
            (refine t_read 12 rfl (by kernel_rfl) (by kernel_rfl) (by kernel_rfl) (t_free rfl) ?_ ?_ ?_; rotate_left; (focus (intro v hv; go_simp; rfl)); go_simp)
            (refine t_read 13 rfl (by kernel_rfl) (by kernel_rfl) (by kernel_rfl) (t_free rfl) ?_ ?_ ?_; rotate_left; (focus (intro v hv; go_simp; rfl)); go_simp)
            (refine t_last 14 rfl (by kernel_rfl) rfl (by kernel_rfl) (by kernel_rfl) ?_; intro K hK)
            have X9 := X7.out.mono D8.out
            refine store_cell rfl _ _ _ rfl gs k (.int .i64 (q : Int)) (by go_simp) (by go_simp) rfl rfl 3 _ X9.rs infoInt1 (by rw [List.length_map, X9.ls, List.length_set]; exact hk') ?_
            intro w10 hr10 hu10
            refine hK _ _ ?_
            have X10 := Lib.hid (X9.puts k (by rw [List.length_set]; exact hk') (q : Int) hu10 hr10)
            have F10 := Lib.hid ((F7.out.on (Ft.of_below (F := S') D8.out) (fun b hb => G.out b hb)).on (Ft.of_upd (F := S') hu10 X4.out.ss) (fun b hb => G.out b hb))
            have D10 := Lib.hid (D.out.step X4.out.ls k hk' (L.take q) (q : Int) ⟨by omega, by rw [List.length_take, HVN.out]; omega⟩)
            clear hr10 hu10 X9
            go_simp
            go_wp2_with fail
            go_roundw
            case rel => exact ⟨k + 1, nx + 1, _, _, vint (by omega), by rw [HSE.out], vint (by omega), by omega, Lib.hid (by rw [HSE.out]; exact X10.out), Lib.hid (by rw [HSE.out]; exact D10.out), F10, G7⟩
            case measure => simp [intOf]; omega
          have hnn2 : ¬ kv < 0 := hneg
          by_cases hbig : (vn : Int) - sn < kv
          · have hkeep : keepV ks nx ((vn : Int) - sn) = (vn : Int) - sn := by rw [hkeep]; omega
            obtain ⟨q, hq⟩ : ∃ q : Nat, q = vn := ⟨_, rfl⟩
            have HSE := Lib.hid (show crN ks Bs Ss (k + 1) = (Bk.set k (L.take q), Sk.set k (q : Int), nx + 1) by rw [HST.out, if_neg (by omega), hkeep]; rw [show ((sn : Int) + ((vn : Int) - sn)) = (q : Int) by omega]; simp)
            have hqv : q ≤ vn := by omega
            have hqc : q ≤ vc := by omega
            have hwq0 : IntKind.i64.wrap ((sn : Int) + ((vn : Int) - sn)) = (q : Int) := by rw [IntKind.wrap_i64]; omega
            have HQ := Lib.hid hq
            clear hq hkeep hkv
            go_wp2_with fail
            have D5 : Hid (Below w4.heap.size w4 w4.drew) := Lib.hid (Below.refl _ _).drew
            refine region_t (fun v => Below w4.heap.size w4 v) 24 (by kernel_rfl) (by kernel_rfl) (by kernel_rfl) D5.out ?_
            obtain ⟨wd, hwd⟩ : ∃ wd, w4.drew = wd := ⟨_, rfl⟩
            rw [hwd] at D5 ⊢
            clear hwd
            (refine t_read 0 rfl (by kernel_rfl) (by kernel_rfl) (by kernel_rfl) (t_free rfl) ?_ ?_ ?_; rotate_left; (focus (intro v hv; go_simp; rfl)); go_simp)
            (refine t_read 1 rfl (by kernel_rfl) (by kernel_rfl) (by kernel_rfl) (t_free rfl) ?_ ?_ ?_; rotate_left; (focus (intro v hv; go_simp; rfl)); go_simp)
            (refine t_read 2 rfl (by kernel_rfl) (by kernel_rfl) (by kernel_rfl) (t_free rfl) ?_ ?_ ?_; rotate_left; (focus (intro v hv; go_simp; rfl)); go_simp)
            (refine t_read 3 rfl (by kernel_rfl) (by kernel_rfl) (by kernel_rfl) (t_free rfl) ?_ ?_ ?_; rotate_left; (focus (intro v hv; have y0 := (hv.cell (p := ⟨p, 0, none⟩) X4.out.rp.lt).trans Y0.out; have y1 := (hv.cell (p := ⟨p, 1, none⟩) X4.out.rp.lt).trans Y1.out; have yb := (hv.cell (p := ⟨gb, k, none⟩) X4.out.rb.lt).trans YB.out; have ys := (hv.cell (p := ⟨gs, k, none⟩) X4.out.rs.lt).trans YS.out; go_simp; rfl)); go_simp)
            (refine t_read 4 rfl (by kernel_rfl) (by kernel_rfl) (by kernel_rfl) (t_free rfl) ?_ ?_ ?_; rotate_left; (focus (intro v hv; go_simp; rfl)); go_simp)
            (refine t_read 5 rfl (by kernel_rfl) (by kernel_rfl) (by kernel_rfl) (t_free rfl) ?_ ?_ ?_; rotate_left; (focus (intro v hv; go_simp; rfl)); go_simp)
            (refine t_read 6 rfl (by kernel_rfl) (by kernel_rfl) (by kernel_rfl) (t_free rfl) ?_ ?_ ?_; rotate_left; (focus (intro v hv; go_simp; rfl)); go_simp)
            (refine t_read 7 rfl (by kernel_rfl) (by kernel_rfl) (by kernel_rfl) (t_free rfl) ?_ ?_ ?_; rotate_left; (focus (intro v hv; go_simp; rfl)); go_simp)
            (refine t_read 8 rfl (by kernel_rfl) (by kernel_rfl) (by kernel_rfl) (t_free rfl) ?_ ?_ ?_; rotate_left; (focus (intro v hv; have y0 := (hv.cell (p := ⟨p, 0, none⟩) X4.out.rp.lt).trans Y0.out; have y1 := (hv.cell (p := ⟨p, 1, none⟩) X4.out.rp.lt).trans Y1.out; have yb := (hv.cell (p := ⟨gb, k, none⟩) X4.out.rb.lt).trans YB.out; have ys := (hv.cell (p := ⟨gs, k, none⟩) X4.out.rs.lt).trans YS.out; go_simp; rfl)); go_simp)
            (refine t_read 9 rfl (by kernel_rfl) (by kernel_rfl) (by kernel_rfl) (t_free rfl) ?_ ?_ ?_; rotate_left; (focus (intro v hv; go_simp; rfl)); go_simp)
            (refine t_read 10 rfl (by kernel_rfl) (by kernel_rfl) (by kernel_rfl) (t_free rfl) ?_ ?_ ?_; rotate_left; (focus (intro v hv; go_simp; rfl)); go_simp)
            (refine t_read 11 rfl (by kernel_rfl) (by kernel_rfl) (by kernel_rfl) (t_free rfl) ?_ ?_ ?_; rotate_left; (focus (intro v hv; have y0 := (hv.cell (p := ⟨p, 0, none⟩) X4.out.rp.lt).trans Y0.out; have y1 := (hv.cell (p := ⟨p, 1, none⟩) X4.out.rp.lt).trans Y1.out; have yb := (hv.cell (p := ⟨gb, k, none⟩) X4.out.rb.lt).trans YB.out; have ys := (hv.cell (p := ⟨gs, k, none⟩) X4.out.rs.lt).trans YS.out; go_simp; rfl)); go_simp)
            (refine t_read 12 rfl (by kernel_rfl) (by kernel_rfl) (by kernel_rfl) (t_free rfl) ?_ ?_ ?_; rotate_left; (focus (intro v hv; go_simp; rfl)); go_simp)
            (refine t_read 13 rfl (by kernel_rfl) (by kernel_rfl) (by kernel_rfl) (t_free rfl) ?_ ?_ ?_; rotate_left; (focus (intro v hv; go_simp; rfl)); go_simp)
            (refine t_read 14 rfl (by kernel_rfl) (by kernel_rfl) (by kernel_rfl) (t_free rfl) ?_ ?_ ?_; rotate_left; (focus (intro v hv; go_simp; rfl)); go_simp)
            (refine t_read 15 rfl (by kernel_rfl) (by kernel_rfl) (by kernel_rfl) (t_free rfl) ?_ ?_ ?_; rotate_left; (focus (intro v hv; have y0 := (hv.cell (p := ⟨p, 0, none⟩) X4.out.rp.lt).trans Y0.out; have y1 := (hv.cell (p := ⟨p, 1, none⟩) X4.out.rp.lt).trans Y1.out; have yb := (hv.cell (p := ⟨gb, k, none⟩) X4.out.rb.lt).trans YB.out; have ys := (hv.cell (p := ⟨gs, k, none⟩) X4.out.rs.lt).trans YS.out; go_simp; rfl)); go_simp)
            (refine t_read 16 rfl (by kernel_rfl) (by kernel_rfl) (by kernel_rfl) (t_free rfl) ?_ ?_ ?_; rotate_left; (focus (intro v hv; go_simp; rfl)); go_simp)
            (refine t_read 17 rfl (by kernel_rfl) (by kernel_rfl) (by kernel_rfl) (t_free rfl) ?_ ?_ ?_; rotate_left; (focus (intro v hv; go_simp; rfl)); go_simp)
            (refine t_read 18 rfl (by kernel_rfl) (by kernel_rfl) (by kernel_rfl) (t_free rfl) ?_ ?_ ?_; rotate_left; (focus (intro v hv; have y0 := (hv.cell (p := ⟨p, 0, none⟩) X4.out.rp.lt).trans Y0.out; have y1 := (hv.cell (p := ⟨p, 1, none⟩) X4.out.rp.lt).trans Y1.out; have yb := (hv.cell (p := ⟨gb, k, none⟩) X4.out.rb.lt).trans YB.out; have ys := (hv.cell (p := ⟨gs, k, none⟩) X4.out.rs.lt).trans YS.out; go_simp; rfl)); go_simp)
            (refine t_read 19 rfl (by kernel_rfl) (by kernel_rfl) (by kernel_rfl) (t_free rfl) ?_ ?_ ?_; rotate_left; (focus (intro v hv; go_simp; rfl)); go_simp)
            (refine t_read 20 rfl (by kernel_rfl) (by kernel_rfl) (by kernel_rfl) (t_free rfl) ?_ ?_ ?_; rotate_left; (focus (intro v hv; go_simp; rfl)); go_simp)
            (refine t_read 21 rfl (by kernel_rfl) (by kernel_rfl) (by kernel_rfl) (t_free rfl) ?_ ?_ ?_; rotate_left; (focus (intro v hv; go_simp; rfl)); go_simp)
            (refine t_list 22 rfl (by kernel_rfl) rfl ?_; intro K hK)
            refine append_rd rfl _ _ rfl w4.heap.size _ [] rfl (Fr.nil _ _) va q vc (L.take q) (by go_simp) ((K4.out.mono D5.out).take q hqv) (by simp; omega) D5.out.size ?_
            intro v6 w6 hf6 hb6 _
            rw [List.nil_append] at hf6
            obtain ⟨a6, c6, hv6, hr6⟩ := hf6.form' q (by rw [List.length_take, HVN.out]; omega)
            subst hv6
            have F6 := Lib.hid hf6
            have R6 := Lib.hid hr6
            have D6 := Lib.hid (D5.out.trans hb6)
            clear hf6 hb6 hr6
            refine hK _ _ D6.out ?_
            go_simp
            (refine t_read 23 rfl (by kernel_rfl) (by kernel_rfl) (by kernel_rfl) (t_free rfl) ?_ ?_ ?_; rotate_left; (focus (intro v hv; go_simp; rfl)); go_simp)
            (refine t_last 24 rfl (by kernel_rfl) rfl (by kernel_rfl) (by kernel_rfl) ?_; intro K hK)
            have X6 := X4.out.mono D6.out
            refine store_cell rfl _ _ _ rfl gb k (.slice a6 q c6) (by go_simp) (by go_simp) rfl rfl 30 _ X6.rb infoBytes (by rw [List.length_map, X6.lv]; exact hk') ?_
            intro w7 hr7 hu7
            refine hK _ _ ?_
            have hnew := F6.out.new
            have X7 := Lib.hid (X6.put k hk' (a6, q, c6) (L.take q) hu7 hr7 R6.out (fun b off e => (hnew b off e).2) (by rw [List.length_take, HVN.out]; omega))
            have F7 := Lib.hid ((F4.out.on (Ft.of_below (F := S') D6.out) (fun b hb => G.out b hb)).on (Ft.of_upd (F := S') hu7 X6.sb) (fun b hb => G.out b hb))
            have G7 : Hid (Grew w S (fun b => S' b ∨ ∃ off, (a6, q, c6).1 = some ⟨b, off, none⟩)) := Lib.hid (fun b hb => hb.elim (G.out b) fun ⟨off, e⟩ => .inr (Nat.le_trans F4.out.size (hnew b off e).1))
            have Z0 := Lib.hid (show w7.cell? ⟨p, 0, none⟩ = some (.slice (some ⟨gb, 0, none⟩) n n) by rw [hu7.cell (p := ⟨p, 0, none⟩) X6.pb, D6.out.cell (p := ⟨p, 0, none⟩) X4.out.rp.lt]; exact Y0.out)
            have Z1 := Lib.hid (show w7.cell? ⟨p, 1, none⟩ = some (.slice (some ⟨gs, 0, none⟩) n n) by rw [hu7.cell (p := ⟨p, 1, none⟩) X6.pb, D6.out.cell (p := ⟨p, 1, none⟩) X4.out.rp.lt]; exact Y1.out)
            have ZB := Lib.hid (show w7.cell? ⟨gb, k, none⟩ = some (.slice a6 q c6) by have hz := hr7.cellV k; rw [List.getElem?_set_self (by rw [List.length_map, X6.lv]; exact hk')] at hz; exact hz)
            clear hr7 hu7 hnew X6
            go_simp
            go_wp2_with fail
            have D8 : Hid (Below w7.heap.size w7 w7.drew) := Lib.hid (Below.refl _ _).drew
            refine region_t (fun v => Below w7.heap.size w7 v) 14 (by kernel_rfl) (by kernel_rfl) (by kernel_rfl) D8.out ?_
            obtain ⟨we, hwe⟩ : ∃ we, w7.drew = we := ⟨_, rfl⟩
            rw [hwe] at D8 ⊢
            clear hwe
            (refine t_read 0 rfl (by kernel_rfl) (by kernel_rfl) (by kernel_rfl) (t_free rfl) ?_ ?_ ?_; rotate_left; (focus (intro v hv; go_simp; rfl)); go_simp)
            (refine t_read 1 rfl (by kernel_rfl) (by kernel_rfl) (by kernel_rfl) (t_free rfl) ?_ ?_ ?_; rotate_left; (focus (intro v hv; go_simp; rfl)); go_simp)
            (refine t_read 2 rfl (by kernel_rfl) (by kernel_rfl) (by kernel_rfl) (t_free rfl) ?_ ?_ ?_; rotate_left; (focus (intro v hv; go_simp; rfl)); go_simp)
            (refine t_read 3 rfl (by kernel_rfl) (by kernel_rfl) (by kernel_rfl) (t_free rfl) ?_ ?_ ?_; rotate_left; (focus (intro v hv; have y0 := (hv.cell (p := ⟨p, 0, none⟩) X7.out.rp.lt).trans Z0.out; have y1 := (hv.cell (p := ⟨p, 1, none⟩) X7.out.rp.lt).trans Z1.out; have yb := (hv.cell (p := ⟨gb, k, none⟩) X7.out.rb.lt).trans ZB.out; go_simp; rfl)); go_simp)
            (refine t_read 4 rfl (by kernel_rfl) (by kernel_rfl) (by kernel_rfl) (t_free rfl) ?_ ?_ ?_; rotate_left; (focus (intro v hv; go_simp; rfl)); go_simp)
            (refine t_read 5 rfl (by kernel_rfl) (by kernel_rfl) (by kernel_rfl) (t_free rfl) ?_ ?_ ?_; rotate_left; (focus (intro v hv; go_simp; rfl)); go_simp)
            (refine t_read 6 rfl (by kernel_rfl) (by kernel_rfl) (by kernel_rfl) (t_free rfl) ?_ ?_ ?_; rotate_left; (focus (intro v hv; go_simp; rfl)); go_simp)
            (refine t_read 7 rfl (by kernel_rfl) (by kernel_rfl) (by kernel_rfl) (t_free rfl) ?_ ?_ ?_; rotate_left; (focus (intro v hv; go_simp; rfl)); go_simp)
            (refine t_read 8 rfl (by kernel_rfl) (by kernel_rfl) (by kernel_rfl) (t_free rfl) ?_ ?_ ?_; rotate_left; (focus (intro v hv; have y0 := (hv.cell (p := ⟨p, 0, none⟩) X7.out.rp.lt).trans Z0.out; have y1 := (hv.cell (p := ⟨p, 1, none⟩) X7.out.rp.lt).trans Z1.out; have yb := (hv.cell (p := ⟨gb, k, none⟩) X7.out.rb.lt).trans ZB.out; go_simp; rfl)); go_simp)
            (refine t_read 9 rfl (by kernel_rfl) (by kernel_rfl) (by kernel_rfl) (t_free rfl) ?_ ?_ ?_; rotate_left; (focus (intro v hv; go_simp; rfl)); go_simp)
            (refine t_read 10 rfl (by kernel_rfl) (by kernel_rfl) (by kernel_rfl) (t_free rfl) ?_ ?_ ?_; rotate_left; (focus (intro v hv; go_simp; rfl)); go_simp)
            (refine t_read 11 rfl (by kernel_rfl) (by kernel_rfl) (by kernel_rfl) (t_free rfl) ?_ ?_ ?_; rotate_left; (focus (intro v hv; have y0 := (hv.cell (p := ⟨p, 0, none⟩) X7.out.rp.lt).trans Z0.out; have y1 := (hv.cell (p := ⟨p, 1, none⟩) X7.out.rp.lt).trans Z1.out; have yb := (hv.cell (p := ⟨gb, k, none⟩) X7.out.rb.lt).trans ZB.out; go_simp; rfl)); go_simp)
            (refine t_read 12 rfl (by kernel_rfl) (by kernel_rfl) (by kernel_rfl) (t_free rfl) ?_ ?_ ?_; rotate_left; (focus (intro v hv; go_simp; rfl)); go_simp)
            (refine t_read 13 rfl (by kernel_rfl) (by kernel_rfl) (by kernel_rfl) (t_free rfl) ?_ ?_ ?_; rotate_left; (focus (intro v hv; go_simp; rfl)); go_simp)
            (refine t_last 14 rfl (by kernel_rfl) rfl (by kernel_rfl) (by kernel_rfl) ?_; intro K hK)
            have X9 := X7.out.mono D8.out
            refine store_cell rfl _ _ _ rfl gs k (.int .i64 (q : Int)) (by go_simp) (by go_simp) rfl rfl 3 _ X9.rs infoInt1 (by rw [List.length_map, X9.ls, List.length_set]; exact hk') ?_
            intro w10 hr10 hu10
            refine hK _ _ ?_
            have X10 := Lib.hid (X9.puts k (by rw [List.length_set]; exact hk') (q : Int) hu10 hr10)
            have F10 := Lib.hid ((F7.out.on (Ft.of_below (F := S') D8.out) (fun b hb => G.out b hb)).on (Ft.of_upd (F := S') hu10 X4.out.ss) (fun b hb => G.out b hb))
            have D10 := Lib.hid (D.out.step X4.out.ls k hk' (L.take q) (q : Int) ⟨by omega, by rw [List.length_take, HVN.out]; omega⟩)
            clear hr10 hu10 X9
            go_simp
            go_wp2_with fail
            go_roundw
            case rel => exact ⟨k + 1, nx + 1, _, _, vint (by omega), by rw [HSE.out], vint (by omega), by omega, Lib.hid (by rw [HSE.out]; exact X10.out), Lib.hid (by rw [HSE.out]; exact D10.out), F10, G7⟩
            case measure => simp [intOf]; omega
          obtain ⟨kn, rfl⟩ : ∃ kn : Nat, kv = kn := ⟨kv.toNat, by omega⟩
          have hkeep : keepV ks nx ((vn : Int) - sn) = (kn : Int) := by rw [hkeep]; omega
          obtain ⟨q, hq⟩ : ∃ q : Nat, q = sn + kn := ⟨_, rfl⟩
          have HSE := Lib.hid (show crN ks Bs Ss (k + 1) = (Bk.set k (L.take q), Sk.set k (q : Int), nx + 1) by rw [HST.out, if_neg (by omega), hkeep]; rw [show ((sn : Int) + (kn : Int)) = (q : Int) by omega]; simp)
          have hqv : q ≤ vn := by omega
          have hqc : q ≤ vc := by omega
          have hwq0 : IntKind.i64.wrap ((sn : Int) + (kn : Int)) = (q : Int) := by rw [IntKind.wrap_i64]; omega
          have HQ := Lib.hid hq
          clear hq hkeep hkv
          go_wp2_with fail
          have D5 : Hid (Below w4.heap.size w4 w4.drew) := Lib.hid (Below.refl _ _).drew
          refine region_t (fun v => Below w4.heap.size w4 v) 24 (by kernel_rfl) (by kernel_rfl) (by kernel_rfl) D5.out ?_
          obtain ⟨wd, hwd⟩ : ∃ wd, w4.drew = wd := ⟨_, rfl⟩
          rw [hwd] at D5 ⊢
          clear hwd
          (refine t_read 0 rfl (by kernel_rfl) (by kernel_rfl) (by kernel_rfl) (t_free rfl) ?_ ?_ ?_; rotate_left; (focus (intro v hv; go_simp; rfl)); go_simp)
          (refine t_read 1 rfl (by kernel_rfl) (by kernel_rfl) (by kernel_rfl) (t_free rfl) ?_ ?_ ?_; rotate_left; (focus (intro v hv; go_simp; rfl)); go_simp)
          (refine t_read 2 rfl (by kernel_rfl) (by kernel_rfl) (by kernel_rfl) (t_free rfl) ?_ ?_ ?_; rotate_left; (focus (intro v hv; go_simp; rfl)); go_simp)
          (refine t_read 3 rfl (by kernel_rfl) (by kernel_rfl) (by kernel_rfl) (t_free rfl) ?_ ?_ ?_; rotate_left; (focus (intro v hv; have y0 := (hv.cell (p := ⟨p, 0, none⟩) X4.out.rp.lt).trans Y0.out; have y1 := (hv.cell (p := ⟨p, 1, none⟩) X4.out.rp.lt).trans Y1.out; have yb := (hv.cell (p := ⟨gb, k, none⟩) X4.out.rb.lt).trans YB.out; have ys := (hv.cell (p := ⟨gs, k, none⟩) X4.out.rs.lt).trans YS.out; go_simp; rfl)); go_simp)
          (refine t_read 4 rfl (by kernel_rfl) (by kernel_rfl) (by kernel_rfl) (t_free rfl) ?_ ?_ ?_; rotate_left; (focus (intro v hv; go_simp; rfl)); go_simp)
          (refine t_read 5 rfl (by kernel_rfl) (by kernel_rfl) (by kernel_rfl) (t_free rfl) ?_ ?_ ?_; rotate_left; (focus (intro v hv; go_simp; rfl)); go_simp)
          (refine t_read 6 rfl (by kernel_rfl) (by kernel_rfl) (by kernel_rfl) (t_free rfl) ?_ ?_ ?_; rotate_left; (focus (intro v hv; go_simp; rfl)); go_simp)
          (refine t_read 7 rfl (by kernel_rfl) (by kernel_rfl) (by kernel_rfl) (t_free rfl) ?_ ?_ ?_; rotate_left; (focus (intro v hv; go_simp; rfl)); go_simp)
          (refine t_read 8 rfl (by kernel_rfl) (by kernel_rfl) (by kernel_rfl) (t_free rfl) ?_ ?_ ?_; rotate_left; (focus (intro v hv; have y0 := (hv.cell (p := ⟨p, 0, none⟩) X4.out.rp.lt).trans Y0.out; have y1 := (hv.cell (p := ⟨p, 1, none⟩) X4.out.rp.lt).trans Y1.out; have yb := (hv.cell (p := ⟨gb, k, none⟩) X4.out.rb.lt).trans YB.out; have ys := (hv.cell (p := ⟨gs, k, none⟩) X4.out.rs.lt).trans YS.out; go_simp; rfl)); go_simp)
          (refine t_read 9 rfl (by kernel_rfl) (by kernel_rfl) (by kernel_rfl) (t_free rfl) ?_ ?_ ?_; rotate_left; (focus (intro v hv; go_simp; rfl)); go_simp)
          (refine t_read 10 rfl (by kernel_rfl) (by kernel_rfl) (by kernel_rfl) (t_free rfl) ?_ ?_ ?_; rotate_left; (focus (intro v hv; go_simp; rfl)); go_simp)
          (refine t_read 11 rfl (by kernel_rfl) (by kernel_rfl) (by kernel_rfl) (t_free rfl) ?_ ?_ ?_; rotate_left; (focus (intro v hv; have y0 := (hv.cell (p := ⟨p, 0, none⟩) X4.out.rp.lt).trans Y0.out; have y1 := (hv.cell (p := ⟨p, 1, none⟩) X4.out.rp.lt).trans Y1.out; have yb := (hv.cell (p := ⟨gb, k, none⟩) X4.out.rb.lt).trans YB.out; have ys := (hv.cell (p := ⟨gs, k, none⟩) X4.out.rs.lt).trans YS.out; go_simp; rfl)); go_simp)
          (refine t_read 12 rfl (by kernel_rfl) (by kernel_rfl) (by kernel_rfl) (t_free rfl) ?_ ?_ ?_; rotate_left; (focus (intro v hv; go_simp; rfl)); go_simp)
          (refine t_read 13 rfl (by kernel_rfl) (by kernel_rfl) (by kernel_rfl) (t_free rfl) ?_ ?_ ?_; rotate_left; (focus (intro v hv; go_simp; rfl)); go_simp)
          (refine t_read 14 rfl (by kernel_rfl) (by kernel_rfl) (by kernel_rfl) (t_free rfl) ?_ ?_ ?_; rotate_left; (focus (intro v hv; go_simp; rfl)); go_simp)
          (refine t_read 15 rfl (by kernel_rfl) (by kernel_rfl) (by kernel_rfl) (t_free rfl) ?_ ?_ ?_; rotate_left; (focus (intro v hv; have y0 := (hv.cell (p := ⟨p, 0, none⟩) X4.out.rp.lt).trans Y0.out; have y1 := (hv.cell (p := ⟨p, 1, none⟩) X4.out.rp.lt).trans Y1.out; have yb := (hv.cell (p := ⟨gb, k, none⟩) X4.out.rb.lt).trans YB.out; have ys := (hv.cell (p := ⟨gs, k, none⟩) X4.out.rs.lt).trans YS.out; go_simp; rfl)); go_simp)
          (refine t_read 16 rfl (by kernel_rfl) (by kernel_rfl) (by kernel_rfl) (t_free rfl) ?_ ?_ ?_; rotate_left; (focus (intro v hv; go_simp; rfl)); go_simp)
          (refine t_read 17 rfl (by kernel_rfl) (by kernel_rfl) (by kernel_rfl) (t_free rfl) ?_ ?_ ?_; rotate_left; (focus (intro v hv; go_simp; rfl)); go_simp)
          (refine t_read 18 rfl (by kernel_rfl) (by kernel_rfl) (by kernel_rfl) (t_free rfl) ?_ ?_ ?_; rotate_left; (focus (intro v hv; have y0 := (hv.cell (p := ⟨p, 0, none⟩) X4.out.rp.lt).trans Y0.out; have y1 := (hv.cell (p := ⟨p, 1, none⟩) X4.out.rp.lt).trans Y1.out; have yb := (hv.cell (p := ⟨gb, k, none⟩) X4.out.rb.lt).trans YB.out; have ys := (hv.cell (p := ⟨gs, k, none⟩) X4.out.rs.lt).trans YS.out; go_simp; rfl)); go_simp)
          (refine t_read 19 rfl (by kernel_rfl) (by kernel_rfl) (by kernel_rfl) (t_free rfl) ?_ ?_ ?_; rotate_left; (focus (intro v hv; go_simp; rfl)); go_simp)
          (refine t_read 20 rfl (by kernel_rfl) (by kernel_rfl) (by kernel_rfl) (t_free rfl) ?_ ?_ ?_; rotate_left; (focus (intro v hv; go_simp; rfl)); go_simp)
          (refine t_read 21 rfl (by kernel_rfl) (by kernel_rfl) (by kernel_rfl) (t_free rfl) ?_ ?_ ?_; rotate_left; (focus (intro v hv; go_simp; rfl)); go_simp)
          (refine t_list 22 rfl (by kernel_rfl) rfl ?_; intro K hK)
          refine append_rd rfl _ _ rfl w4.heap.size _ [] rfl (Fr.nil _ _) va q vc (L.take q) (by go_simp) ((K4.out.mono D5.out).take q hqv) (by simp; omega) D5.out.size ?_
          intro v6 w6 hf6 hb6 _
          rw [List.nil_append] at hf6
          obtain ⟨a6, c6, hv6, hr6⟩ := hf6.form' q (by rw [List.length_take, HVN.out]; omega)
          subst hv6
          have F6 := Lib.hid hf6
          have R6 := Lib.hid hr6
          have D6 := Lib.hid (D5.out.trans hb6)
          clear hf6 hb6 hr6
          refine hK _ _ D6.out ?_
          go_simp
          (refine t_read 23 rfl (by kernel_rfl) (by kernel_rfl) (by kernel_rfl) (t_free rfl) ?_ ?_ ?_; rotate_left; (focus (intro v hv; go_simp; rfl)); go_simp)
          (refine t_last 24 rfl (by kernel_rfl) rfl (by kernel_rfl) (by kernel_rfl) ?_; intro K hK)
          have X6 := X4.out.mono D6.out
          refine store_cell rfl _ _ _ rfl gb k (.slice a6 q c6) (by go_simp) (by go_simp) rfl rfl 30 _ X6.rb infoBytes (by rw [List.length_map, X6.lv]; exact hk') ?_
          intro w7 hr7 hu7
          refine hK _ _ ?_
          have hnew := F6.out.new
          have X7 := Lib.hid (X6.put k hk' (a6, q, c6) (L.take q) hu7 hr7 R6.out (fun b off e => (hnew b off e).2) (by rw [List.length_take, HVN.out]; omega))
          have F7 := Lib.hid ((F4.out.on (Ft.of_below (F := S') D6.out) (fun b hb => G.out b hb)).on (Ft.of_upd (F := S') hu7 X6.sb) (fun b hb => G.out b hb))
          have G7 : Hid (Grew w S (fun b => S' b ∨ ∃ off, (a6, q, c6).1 = some ⟨b, off, none⟩)) := Lib.hid (fun b hb => hb.elim (G.out b) fun ⟨off, e⟩ => .inr (Nat.le_trans F4.out.size (hnew b off e).1))
          have Z0 := Lib.hid (show w7.cell? ⟨p, 0, none⟩ = some (.slice (some ⟨gb, 0, none⟩) n n) by rw [hu7.cell (p := ⟨p, 0, none⟩) X6.pb, D6.out.cell (p := ⟨p, 0, none⟩) X4.out.rp.lt]; exact Y0.out)
          have Z1 := Lib.hid (show w7.cell? ⟨p, 1, none⟩ = some (.slice (some ⟨gs, 0, none⟩) n n) by rw [hu7.cell (p := ⟨p, 1, none⟩) X6.pb, D6.out.cell (p := ⟨p, 1, none⟩) X4.out.rp.lt]; exact Y1.out)
          have ZB := Lib.hid (show w7.cell? ⟨gb, k, none⟩ = some (.slice a6 q c6) by have hz := hr7.cellV k; rw [List.getElem?_set_self (by rw [List.length_map, X6.lv]; exact hk')] at hz; exact hz)
          clear hr7 hu7 hnew X6
          go_simp
          go_wp2_with fail
          have D8 : Hid (Below w7.heap.size w7 w7.drew) := Lib.hid (Below.refl _ _).drew
          refine region_t (fun v => Below w7.heap.size w7 v) 14 (by kernel_rfl) (by kernel_rfl) (by kernel_rfl) D8.out ?_
          obtain ⟨we, hwe⟩ : ∃ we, w7.drew = we := ⟨_, rfl⟩
          rw [hwe] at D8 ⊢
          clear hwe
          (refine t_read 0 rfl (by kernel_rfl) (by kernel_rfl) (by kernel_rfl) (t_free rfl) ?_ ?_ ?_; rotate_left; (focus (intro v hv; go_simp; rfl)); go_simp)
          (refine t_read 1 rfl (by kernel_rfl) (by kernel_rfl) (by kernel_rfl) (t_free rfl) ?_ ?_ ?_; rotate_left; (focus (intro v hv; go_simp; rfl)); go_simp)
          (refine t_read 2 rfl (by kernel_rfl) (by kernel_rfl) (by kernel_rfl) (t_free rfl) ?_ ?_ ?_; rotate_left; (focus (intro v hv; go_simp; rfl)); go_simp)
          (refine t_read 3 rfl (by kernel_rfl) (by kernel_rfl) (by kernel_rfl) (t_free rfl) ?_ ?_ ?_; rotate_left; (focus (intro v hv; have y0 := (hv.cell (p := ⟨p, 0, none⟩) X7.out.rp.lt).trans Z0.out; have y1 := (hv.cell (p := ⟨p, 1, none⟩) X7.out.rp.lt).trans Z1.out; have yb := (hv.cell (p := ⟨gb, k, none⟩) X7.out.rb.lt).trans ZB.out; go_simp; rfl)); go_simp)
          (refine t_read 4 rfl (by kernel_rfl) (by kernel_rfl) (by kernel_rfl) (t_free rfl) ?_ ?_ ?_; rotate_left; (focus (intro v hv; go_simp; rfl)); go_simp)
          (refine t_read 5 rfl (by kernel_rfl) (by kernel_rfl) (by kernel_rfl) (t_free rfl) ?_ ?_ ?_; rotate_left; (focus (intro v hv; go_simp; rfl)); go_simp)
          (refine t_read 6 rfl (by kernel_rfl) (by kernel_rfl) (by kernel_rfl) (t_free rfl) ?_ ?_ ?_; rotate_left; (focus (intro v hv; go_simp; rfl)); go_simp)
          (refine t_read 7 rfl (by kernel_rfl) (by kernel_rfl) (by kernel_rfl) (t_free rfl) ?_ ?_ ?_; rotate_left; (focus (intro v hv; go_simp; rfl)); go_simp)
          (refine t_read 8 rfl (by kernel_rfl) (by kernel_rfl) (by kernel_rfl) (t_free rfl) ?_ ?_ ?_; rotate_left; (focus (intro v hv; have y0 := (hv.cell (p := ⟨p, 0, none⟩) X7.out.rp.lt).trans Z0.out; have y1 := (hv.cell (p := ⟨p, 1, none⟩) X7.out.rp.lt).trans Z1.out; have yb := (hv.cell (p := ⟨gb, k, none⟩) X7.out.rb.lt).trans ZB.out; go_simp; rfl)); go_simp)
          (refine t_read 9 rfl (by kernel_rfl) (by kernel_rfl) (by kernel_rfl) (t_free rfl) ?_ ?_ ?_; rotate_left; (focus (intro v hv; go_simp; rfl)); go_simp)
          (refine t_read 10 rfl (by kernel_rfl) (by kernel_rfl) (by kernel_rfl) (t_free rfl) ?_ ?_ ?_; rotate_left; (focus (intro v hv; go_simp; rfl)); go_simp)
          (refine t_read 11 rfl (by kernel_rfl) (by kernel_rfl) (by kernel_rfl) (t_free rfl) ?_ ?_ ?_; rotate_left; (focus (intro v hv; have y0 := (hv.cell (p := ⟨p, 0, none⟩) X7.out.rp.lt).trans Z0.out; have y1 := (hv.cell (p := ⟨p, 1, none⟩) X7.out.rp.lt).trans Z1.out; have yb := (hv.cell (p := ⟨gb, k, none⟩) X7.out.rb.lt).trans ZB.out; go_simp; rfl)); go_simp)
          (refine t_read 12 rfl (by kernel_rfl) (by kernel_rfl) (by kernel_rfl) (t_free rfl) ?_ ?_ ?_; rotate_left; (focus (intro v hv; go_simp; rfl)); go_simp)
          (refine t_read 13 rfl (by kernel_rfl) (by kernel_rfl) (by kernel_rfl) (t_free rfl) ?_ ?_ ?_; rotate_left; (focus (intro v hv; go_simp; rfl)); go_simp)
          (refine t_last 14 rfl (by kernel_rfl) rfl (by kernel_rfl) (by kernel_rfl) ?_; intro K hK)
          have X9 := X7.out.mono D8.out
          refine store_cell rfl _ _ _ rfl gs k (.int .i64 (q : Int)) (by go_simp) (by go_simp) rfl rfl 3 _ X9.rs infoInt1 (by rw [List.length_map, X9.ls, List.length_set]; exact hk') ?_
          intro w10 hr10 hu10
          refine hK _ _ ?_
          have X10 := Lib.hid (X9.puts k (by rw [List.length_set]; exact hk') (q : Int) hu10 hr10)
          have F10 := Lib.hid ((F7.out.on (Ft.of_below (F := S') D8.out) (fun b hb => G.out b hb)).on (Ft.of_upd (F := S') hu10 X4.out.ss) (fun b hb => G.out b hb))
          have D10 := Lib.hid (D.out.step X4.out.ls k hk' (L.take q) (q : Int) ⟨by omega, by rw [List.length_take, HVN.out]; omega⟩)
          clear hr10 hu10 X9
          go_simp
          go_wp2_with fail
          go_roundw
          case rel => exact ⟨k + 1, nx + 1, _, _, vint (by omega), by rw [HSE.out], vint (by omega), by omega, Lib.hid (by rw [HSE.out]; exact X10.out), Lib.hid (by rw [HSE.out]; exact D10.out), F10, G7⟩
          case measure => simp [intOf]; omega
    · obtain rfl : n = k := by omega
      go_wp2_with fail
      first | go_end0 | (refine bodyPost_ret (results_none rfl _ _ _) rfl ?_)
      exact ⟨rfl, _, _, by rw [HCK.out]; exact X.out, by rw [HCK.out]; exact D.out, F.out, G.out⟩

end Go.Proofs.Ytlohfalpcppcjaa.W
