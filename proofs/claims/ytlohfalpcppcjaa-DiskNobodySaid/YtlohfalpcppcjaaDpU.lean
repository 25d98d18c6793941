/- LAYER 9 (disk): the program's New, Sync, Crash. -/
import Derived.Test.YtlohfalpcppcjaaDpT
import Derived.Test.YtlohfalpcppcjaaDoF
import Derived.Lib.MinMax
set_option linter.unusedSimpArgs false
set_option linter.unusedVariables false
namespace Go.Proofs.Ytlohfalpcppcjaa.W
open Go Go.ChangeShapes Go.WideShapes Go.ChangeAt Go.RowKit

set_option maxRecDepth 100000 in
set_option maxHeartbeats 4000000 in
theorem dturns (ka : Option Addr) (kl kc : Nat) (w : World) :
    Calls Try.prog 37 #[.slice ka kl kc] w fun e w' => ∃ b1 b2, e = .returned (.func (.func 41) #[] #[.pointer (some ⟨b1, 0, none⟩), .pointer (some ⟨b2, 0, none⟩)]) ∧ Row w' b1 31 [.slice ka kl kc] ∧ Row w' b2 3 [.int .i64 0] ∧ w.heap.size ≤ b1 ∧ w.heap.size ≤ b2 ∧ b1 ≠ b2 ∧ Below w.heap.size w w' := by
  go_enter Try.func37, Try.ntmps37
  go_wp2_with (first
    | (with_reducible refine box_cell (o := ⟨some 1, _, _, _, _, _⟩) rfl _ _ rfl (.slice ka kl kc) rfl rfl ?_; intro w1 hr1 hb1 hz1; have R1 := Lib.hid hr1; have B1 := Lib.hid hb1; have Z1 := Lib.hid hz1; clear hr1 hb1 hz1)
    | (with_reducible refine alloc_cell (o := ⟨some 3, _, _, _, _, _⟩) rfl _ rfl (.int .i64 0) rfl (by kernel_rfl) ?_; intro w2 hr2 hb2 hz2; have R2 := Lib.hid hr2; have B2 := Lib.hid hb2; have Z2 := Lib.hid hz2; have c2 := hr2.k0; have f2 := hr2.frozen 0; clear hr2 hb2 hz2))
  go_ret
  have u2 := Upd.setCell w2 w1.heap.size 0 (.int .i64 0)
  exact ⟨_, _, rfl, ((R1.out.below B2.out R1.out.lt).upd u2 (Nat.ne_of_lt R1.out.lt)), R2.out.setV 0 _, Nat.le_refl _, B1.out.size, Nat.ne_of_lt R1.out.lt, (B1.out.trans (B2.out.mono B1.out.size)).trans (u2.below B1.out.size)⟩

set_option maxRecDepth 100000 in
set_option maxHeartbeats 4000000 in
theorem dnew_bad (z room : Int) (w : World) (hz : -9223372036854775808 ≤ z ∧ z ≤ 9223372036854775807) (hroom : -9223372036854775808 ≤ room ∧ room ≤ 9223372036854775807) (h : z < 1 ∨ 16 < z ∨ room < 0 ∨ 524288 < room) :
    Calls Try.prog 8 #[.int .i64 z, .int .i64 room] w fun e w' => e = .returned (.tuple #[.pointer none, .int .i64 1]) ∧ w' = w := by
  go_enter Try.func8, Try.ntmps8
  go_wp2_with fail
  all_goals (go_ret2; exact ⟨rfl, rfl⟩)

theorem made2 (a b : Value) (n : Nat) : (madeCells #[a, b] (n * 2)).toList.length = n * 2 ∧ (∀ i, i < n → (madeCells #[a, b] (n * 2)).toList[i * 2]? = some a) ∧ ∀ i, i < n → (madeCells #[a, b] (n * 2)).toList[i * 2 + 1]? = some b := by
  refine ⟨by simp [size_madeCells], fun i hi => ?_, fun i hi => ?_⟩
  · have h1 : i * 2 < n * 2 := by omega
    simp [madeCells, h1]
  · have h1 : i * 2 + 1 < n * 2 := by omega
    have h2 : (i * 2 + 1) % 2 = 1 := by omega
    simp [madeCells, h1, h2]
theorem vs_rep (n i : Nat) : (List.replicate n ((none, 0, 0) : Sv)).getD i default = (none, 0, 0) := getD_rep n i _
set_option maxRecDepth 100000 in
set_option maxHeartbeats 4000000 in
theorem dnew_ok : DkNew PD := by
  intro n room w hn1 hn2 hroom
  go_enter Try.func8, Try.ntmps8
  go_wp2_with (first
    | (at_make; refine make_wide rfl _ _ _ rfl 64 #[.slice none 0 0, .int .i64 0] 2 32 (by kernel_rfl) (by kernel_rfl) (n : Int) n (by go_simp) (by go_simp) rfl (by omega) (by omega) (by omega) ?_; intro w1 hr1 hb1 hz1; have R1 := Lib.hid hr1; have B1 := Lib.hid hb1; have Z1 := Lib.hid hz1; clear hr1 hb1 hz1)
    | ((with_reducible refine box_row (o := ⟨some 24, _, _, _, _, _⟩) rfl _ _ rfl [.bool true, .int .i64 (room : Int), .slice (some ⟨w.heap.size, 0, none⟩) n n] ?_ ?_); (focus (go_simp)); intro w2 hr2 hb2 hz2; have R2 := Lib.hid hr2; have B2 := Lib.hid hb2; have Z2 := Lib.hid hz2; clear hr2 hb2 hz2))
  go_ret2
  have hz1 := Z1.out
  have hz2 := Z2.out
  have M := made2 (.slice none 0 0) (.int .i64 0) n
  refine ⟨_, fun k => w.heap.size ≤ k ∧ k < w2.heap.size, rfl, ⟨w.heap.size, _, List.replicate n (none, 0, 0), { rp := ?_, rg := R1.out.below B2.out R1.out.lt, ll := by simpa [DSt.new] using M.1, lb := ?_, ls := ?_, lv := by simp [DSt.new], lS := by simp [DSt.new], ow := ?_, sep := ?_, pg := by omega, p0 := trivial, sp := ⟨by omega, by omega⟩, sg := ⟨Nat.le_refl _, by omega⟩, sv := ?_, lt := fun k hk => hk.2, n16 := by simpa [DSt.new] using hn2, len := fun i => ?_, most0 := ?_, sure := ?_ }⟩, B1.out.trans (B2.out.mono (by omega)), fun k hk => hk.1⟩
  · simpa [DSt.new] using R2.out
  · intro i hi
    rw [vs_rep]; exact M.2.1 i (by simpa [DSt.new] using hi)
  · intro i hi
    have hi' : i < n := by simpa [DSt.new] using hi
    rw [M.2.2 i hi']
    simp only [DSt.new]
    rw [getD_rep]
  · intro i hi
    rw [vs_rep]
    simp only [DSt.new]
    rw [getD_rep]
    exact Fr.nil _ _
  · intro i j b hi hj e
    rw [vs_rep] at e
    cases e
  · intro i b hi e
    rw [vs_rep] at e
    cases e
  · simp only [DSt.new]
    rw [getD_rep]; simp
  · simp only [DSt.new]; omega
  · intro i hi
    simp only [DSt.new]
    rw [getD_rep, getD_rep]; simp

set_option maxRecDepth 100000 in
set_option maxHeartbeats 4000000 in
theorem dsync (p g : Nat) (L : List Value) (vs : List Sv) (S : Nat → Prop) (d : DSt) (w : World) (h : PX w p g L vs S d) :
    Calls Try.prog 14 #[.pointer (some ⟨p, 0, none⟩)] w fun e w' => e = .returned (.int .i64 d.loose) ∧ ∃ L', PX w' p g L' vs S d.sync ∧ Ft S w w' := by
  unfold DSt.sync
  have HX := Lib.hid h
  have HR := Lib.hid (fun v (hv : Below w.heap.size w v) => dready p _ true _ _ v (h.mono hv).rp h.p0)
  have HLO := Lib.hid (dloose p g L vs S d w h)
  have hn16 := h.n16
  have hp0 := h.p0
  obtain ⟨n, hnn⟩ : ∃ n, d.B.length = n := ⟨_, rfl⟩
  rw [hnn] at hn16 ⊢
  have HNN := Lib.hid hnn
  obtain ⟨lo, hlo⟩ : ∃ lo, d.loose = lo := ⟨_, rfl⟩
  rw [hlo] at HLO ⊢
  clear h hnn hlo
  go_enter Try.func14, Try.ntmps14
  go_wp2_with (first
    | (go_at_call 15; refine HLO.out.mono ?_; rintro e w1 ⟨rfl, hb1⟩; have B1 := Lib.hid hb1; have x2 := (HX.out.mono hb1).rp.t3.2.2; rw [HNN.out] at x2; clear hb1)
    | (go_at_call 35; refine (HR.out _ B1.out).mono ?_; rintro e w2 ⟨rfl, rfl⟩))
  clear x2
  go_loopw [14] (fun i wr => ∃ (k : Nat) (L' : List Value), i = .int .i64 (k : Int) ∧ k ≤ n ∧ Hid (PX wr p g L' vs S { d with s := syncN d.B d.s k }) ∧ Hid (Ft S w wr)) (fun i _ => n - (intOf i).toNat)
  case atStart => exact ⟨0, L, rfl, Nat.zero_le _, Lib.hid (HX.out.mono B1.out), Lib.hid (Ft.of_below B1.out)⟩
  case round =>
    obtain ⟨k, L', rfl, hk, X, F⟩ := hrel
    by_cases hlt : k < n
    · have hk' : k < d.B.length := by rw [HNN.out]; exact hlt
      obtain ⟨va, vc, hv, xb, hrk⟩ := X.out.at k hk'
      have hlen := X.out.len k
      have x2 := X.out.rp.t3.2.2
      have HM := Lib.hid (show ((d.B.getD k []).length : Int) = ((d.B.getD k []).length : Nat) from rfl)
      simp only at hv xb hrk hlen x2
      obtain ⟨m, hm⟩ : ∃ m, (d.B.getD k []).length = m := ⟨_, rfl⟩
      rw [hm] at xb hlen
      rw [HNN.out] at x2
      have X2 := Lib.hid x2
      have XB := Lib.hid xb
      have HMM := Lib.hid hm
      clear hv xb hrk hm x2
      go_wp2_with fail
      have D4 : Hid (Below wr.heap.size wr wr.drew) := Lib.hid (Below.refl _ _).drew
      refine region_t (fun v => Below wr.heap.size wr v) 16 (by kernel_rfl) (by kernel_rfl) (by kernel_rfl) D4.out ?_
      obtain ⟨wd, hwd⟩ : ∃ wd, wr.drew = wd := ⟨_, rfl⟩
      rw [hwd] at D4 ⊢
      clear hwd
      (refine t_read 0 rfl (by kernel_rfl) (by kernel_rfl) (by kernel_rfl) (t_free rfl) ?_ ?_ ?_; rotate_left; (focus (intro v hv; go_simp; rfl)); go_simp)
      (refine t_read 1 rfl (by kernel_rfl) (by kernel_rfl) (by kernel_rfl) (t_free rfl) ?_ ?_ ?_; rotate_left; (focus (intro v hv; go_simp; rfl)); go_simp)
      (refine t_read 2 rfl (by kernel_rfl) (by kernel_rfl) (by kernel_rfl) (t_free rfl) ?_ ?_ ?_; rotate_left; (focus (intro v hv; go_simp; rfl)); go_simp)
      (refine t_read 3 rfl (by kernel_rfl) (by kernel_rfl) (by kernel_rfl) (t_free rfl) ?_ ?_ ?_; rotate_left; (focus (intro v hv; have x2 := (hv.cell (p := ⟨p, 2, none⟩) X.out.rp.lt).trans X2.out; have xb := (hv.cell (p := ⟨g, k * 2, none⟩) X.out.rg.lt).trans XB.out; go_simp; rfl)); go_simp)
      (refine t_read 4 rfl (by kernel_rfl) (by kernel_rfl) (by kernel_rfl) (t_free rfl) ?_ ?_ ?_; rotate_left; (focus (intro v hv; go_simp; rfl)); go_simp)
      (refine t_read 5 rfl (by kernel_rfl) (by kernel_rfl) (by kernel_rfl) (t_free rfl) ?_ ?_ ?_; rotate_left; (focus (intro v hv; go_simp; rfl)); go_simp)
      (refine t_read 6 rfl (by kernel_rfl) (by kernel_rfl) (by kernel_rfl) (t_free rfl) ?_ ?_ ?_; rotate_left; (focus (intro v hv; go_simp; rfl)); go_simp)
      (refine t_read 7 rfl (by kernel_rfl) (by kernel_rfl) (by kernel_rfl) (t_free rfl) ?_ ?_ ?_; rotate_left; (focus (intro v hv; go_simp; rfl)); go_simp)
      (refine t_read 8 rfl (by kernel_rfl) (by kernel_rfl) (by kernel_rfl) (t_free rfl) ?_ ?_ ?_; rotate_left; (focus (intro v hv; have x2 := (hv.cell (p := ⟨p, 2, none⟩) X.out.rp.lt).trans X2.out; have xb := (hv.cell (p := ⟨g, k * 2, none⟩) X.out.rg.lt).trans XB.out; go_simp; rfl)); go_simp)
      (refine t_read 9 rfl (by kernel_rfl) (by kernel_rfl) (by kernel_rfl) (t_free rfl) ?_ ?_ ?_; rotate_left; (focus (intro v hv; go_simp; rfl)); go_simp)
      (refine t_read 10 rfl (by kernel_rfl) (by kernel_rfl) (by kernel_rfl) (t_free rfl) ?_ ?_ ?_; rotate_left; (focus (intro v hv; go_simp; rfl)); go_simp)
      (refine t_read 11 rfl (by kernel_rfl) (by kernel_rfl) (by kernel_rfl) (t_free rfl) ?_ ?_ ?_; rotate_left; (focus (intro v hv; go_simp; rfl)); go_simp)
      (refine t_read 12 rfl (by kernel_rfl) (by kernel_rfl) (by kernel_rfl) (t_free rfl) ?_ ?_ ?_; rotate_left; (focus (intro v hv; have x2 := (hv.cell (p := ⟨p, 2, none⟩) X.out.rp.lt).trans X2.out; have xb := (hv.cell (p := ⟨g, k * 2, none⟩) X.out.rg.lt).trans XB.out; go_simp; rfl)); go_simp)
      (refine t_read 13 rfl (by kernel_rfl) (by kernel_rfl) (by kernel_rfl) (t_free rfl) ?_ ?_ ?_; rotate_left; (focus (intro v hv; go_simp; rfl)); go_simp)
      (refine t_one 14 rfl (by kernel_rfl) rfl rfl ?_ ?_ ?_; rotate_left; (focus (go_simp; rfl)); go_simp)
      (refine t_read 15 rfl (by kernel_rfl) (by kernel_rfl) (by kernel_rfl) (t_free rfl) ?_ ?_ ?_; rotate_left; (focus (intro v hv; go_simp; rfl)); go_simp)
      (refine t_last 16 rfl (by kernel_rfl) rfl (by kernel_rfl) (by kernel_rfl) ?_; intro K hK)
      have X6 := X.out.mono D4.out
      refine store_cell rfl _ _ _ rfl g (k * 2 + 1) (.int .i64 (m : Int)) (by go_simp) (by go_simp) rfl rfl 64 _ X6.rg infoInt1 (by have := X6.ll; simp only at this; omega) ?_
      intro w7 hr7 hu7
      refine hK _ _ ?_
      have P := X6.sureNow k (m : Int) hk' hr7 hu7 (by simp only; rw [HMM.out]; omega)
      have X7 : Hid (PX w7 p g _ vs S { d with s := syncN d.B d.s (k + 1) }) := Lib.hid (by unfold syncN; rw [HMM.out]; exact P.1)
      have F7 := Lib.hid ((F.out.trans (Ft.of_below D4.out)).trans P.2)
      clear hr7 hu7 X6 P
      go_simp
      go_wp2_with fail
      go_roundw
      case rel => exact ⟨k + 1, _, vint (by omega), by omega, X7, F7⟩
      case measure => simp [intOf]; omega
    · obtain rfl : n = k := by omega
      go_wp2_with fail
      go_ret
      exact ⟨rfl, L', X.out, F.out⟩

theorem Ft.of_gw {g : Nat} {w w' : World} (h : Gw g w w') : Ft (fun b => b = g) w w' := ⟨h.os, h.tape, h.output, h.size, fun k hk hn => h.block k hk hn⟩
/-- the turn, when so many slots have taken one -/
def turnN (ks : List Int) (nx : Nat) : Nat := if ks.length = 0 then 0 else nx
theorem turnAt_N (ks : List Int) (nx : Nat) : turnAt ks (turnN ks nx) = turnN ks (nx + 1) := by
  unfold turnAt turnN
  by_cases h : ks.length = 0
  · rw [if_pos h, if_pos h, if_pos h]
  · rw [if_neg h, if_neg h, if_neg h]
theorem keepV_turn (ks : List Int) (nx : Nat) (lo : Int) : keepV ks (turnN ks nx) lo = keepV ks nx lo := by
  unfold keepV turnN
  by_cases h0 : ks.length = 0
  · rw [if_pos h0, if_pos h0]
  · rw [if_neg h0, if_neg h0, if_neg h0]

set_option maxRecDepth 100000 in
set_option maxHeartbeats 4000000 in
theorem dcrash (p g : Nat) (L : List Value) (vs : List Sv) (S : Nat → Prop) (d : DSt) (ka : Option Addr) (kl kc : Nat) (ks : List Int) (w : World) (h : PX w p g L vs S d) (hk : Sl .i64 w ka kl ks) (hka : kl ≠ 0 → ∀ b off, ka = some ⟨b, off, none⟩ → ¬ S b) :
    Calls Try.prog 16 #[.pointer (some ⟨p, 0, none⟩), .slice ka kl kc] w fun e w' => e = .returned (.tuple #[]) ∧ ∃ L' vs', PX w' p g L' vs' S (d.crash ks) ∧ Ft S w w' := by
  unfold DSt.crash
  have HX := Lib.hid h
  have HR := Lib.hid (dready p _ true _ _ w h.rp h.p0)
  have HKS := Lib.hid hk
  have HKA := Lib.hid hka
  have HTS := Lib.hid (dturns ka kl kc w)
  have hp0 := h.p0
  have hn16 := h.n16
  obtain ⟨n, hnn⟩ : ∃ n, d.B.length = n := ⟨_, rfl⟩
  rw [hnn] at hn16 ⊢
  have HNN := Lib.hid hnn
  clear h hk hka hnn
  go_enter Try.func16, Try.ntmps16
  go_wp2_with (first
    | (go_at_call 35; refine HR.out.mono ?_; rintro e w1 ⟨rfl, rfl⟩)
    | (go_at_call 37; refine HTS.out.mono ?_; rintro e w1 ⟨b1, b2, rfl, hr1, hr2, hl1, hl2, hne, hb1⟩; have R1 := Lib.hid hr1; have R2 := Lib.hid hr2; have L1 := Lib.hid hl1; have L2 := Lib.hid hl2; have N12 := Lib.hid hne; have B1 := Lib.hid hb1; have x2 := (HX.out.mono hb1).rp.t3.2.2; rw [HNN.out] at x2; clear hr1 hr2 hl1 hl2 hne hb1))
  clear x2
  go_loopw [17] (fun i wr => ∃ (k nx : Nat) (L' : List Value) (vs' : List Sv), i = .int .i64 (k : Int) ∧ k ≤ n ∧ nx = (crN ks d.B d.s k).2.2 ∧ Hid (PX wr p g L' vs' S { d with B := (crN ks d.B d.s k).1, s := (crN ks d.B d.s k).2.1 }) ∧ Hid (Ft S w wr) ∧ Hid (Row wr b1 31 [.slice ka kl kc]) ∧ Hid (Row wr b2 3 [.int .i64 ((turnN ks nx : Nat) : Int)])) (fun i _ => n - (intOf i).toNat)
  case atStart => exact ⟨0, 0, L, vs, rfl, Nat.zero_le _, rfl, Lib.hid (HX.out.mono B1.out), Lib.hid (Ft.of_below B1.out), R1, Lib.hid (by have : turnN ks 0 = 0 := by { unfold turnN; split <;> rfl }; rw [this]; exact R2.out)⟩
  case round =>
    obtain ⟨k, nx, L', vs', rfl, hk, hnx, X, F, K, T⟩ := hrel
    have hcl := crN_len ks d.B d.s k
    rw [← hnx, HNN.out] at hcl
    obtain ⟨hcl1, hcl2⟩ := hcl
    have hstep : crN ks d.B d.s (k + 1) = _ := crN.eq_2 ks d.B d.s k
    rw [← hnx] at hstep
    obtain ⟨Bk, Sk, nk, hck⟩ : ∃ x y z, crN ks d.B d.s k = (x, y, z) := ⟨_, _, _, rfl⟩
    rw [hck] at X hcl1 hstep hnx
    dsimp only at X hcl1 hstep hnx
    have HNB := Lib.hid hcl1
    have HCK := Lib.hid hck
    have x2 := X.out.rp.t3.2.2
    rw [show ({ d with B := Bk, s := Sk } : DSt).B.length = n from hcl1] at x2
    clear hcl1 hck
    by_cases hlt : k < n
    · have hk' : k < Bk.length := by rw [HNB.out]; exact hlt
      obtain ⟨va, vc, hv, xb, hrk⟩ := X.out.at k hk'
      have hlen := X.out.len k
      have xs := X.out.cs k hk'
      have hs1 := X.out.sure k hk'
      have hvc := hrk.hle
      dsimp only at hv xb hrk hlen xs hs1 hvc
      obtain ⟨Lk, hL⟩ : ∃ Lk, Bk.getD k [] = Lk := ⟨_, rfl⟩
      obtain ⟨m, hm⟩ : ∃ m, Lk.length = m := ⟨_, rfl⟩
      obtain ⟨sn, hsn⟩ : ∃ sn : Nat, Sk.getD k 0 = sn := ⟨(Sk.getD k 0).toNat, by omega⟩
      rw [hL, hm] at hv xb hrk hlen hs1 hvc
      rw [hsn] at xs hs1
      rw [hL, hsn, hm] at hstep
      have hle : sn ≤ m := by omega
      have HSL := Lib.hid (fun v (hX : PX v p g L' vs' S { d with B := Bk, s := Sk }) => sloose g k m vc va (sn : Int) v (by rw [hX.cb k hk', hv]) (by rw [hX.cs k hk']; rw [show ({ d with B := Bk, s := Sk } : DSt).s.getD k 0 = (sn : Int) from hsn]) hX.rg.lt hlen (by omega))
      have CC := Lib.hid (fun v (hX : PX v p g L' vs' S { d with B := Bk, s := Sk }) => show v.cell? ⟨g, k * 2, none⟩ = some (.slice va m vc) ∧ v.cell? ⟨g, k * 2 + 1, none⟩ = some (.int .i64 (sn : Int)) from ⟨by rw [hX.cb k hk', hv], by rw [hX.cs k hk']; rw [show ({ d with B := Bk, s := Sk } : DSt).s.getD k 0 = (sn : Int) from hsn]⟩)
      have HV := Lib.hid hv
      have HL := Lib.hid hL
      have HM := Lib.hid hm
      have HSN := Lib.hid hsn
      have HST := Lib.hid hstep
      have HNX := Lib.hid hnx
      have hlo0 : 0 ≤ (m : Int) - sn := by omega
      clear hv xb hrk xs hs1 hL hm hsn hstep hnx
      go_wp2_with (go_at_call 36; refine (HSL.out _ X.out).mono ?_; rintro e w4 ⟨rfl, hb4⟩; have B4 := Lib.hid hb4; clear hb4 x2)
      · have hz : (m : Int) - sn = 0 := by first | assumption | omega | (have h0 := ‹((m : Int) - sn == 0) = true›; simpa using h0)
        have HSE := Lib.hid (show crN ks d.B d.s (k + 1) = (Bk, Sk, nx) by rw [HST.out, if_pos hz, ← HNX.out])
        go_roundw
        case rel => exact ⟨k + 1, nx, L', vs', vint (by omega), by omega, by rw [HSE.out], Lib.hid (by rw [HSE.out]; exact X.out.mono B4.out), Lib.hid (F.out.trans (Ft.of_below B4.out)), Lib.hid (K.out.below B4.out K.out.lt), Lib.hid (T.out.below B4.out T.out.lt)⟩
        case measure => simp [intOf]; omega
      · have hnz : ¬ ((m : Int) - sn = 0) := by first | assumption | omega | (have h0 := ‹((m : Int) - sn == 0) = false›; simpa using h0)
        have XD := Lib.hid (X.out.mono B4.out.drew)
        have FD := Lib.hid (F.out.trans (Ft.of_below B4.out.drew))
        have KD := Lib.hid (K.out.below B4.out.drew K.out.lt)
        have TD := Lib.hid (T.out.below B4.out.drew T.out.lt)
        have NE : Hid (¬ b1 = b2) := N12
        have hkv := keepV_le ks nx ((m : Int) - sn) hlo0
        have hkt := keepV_turn ks nx ((m : Int) - sn)
        have hnx1 : turnN ks nx ≤ 1000 := by unfold turnN; split <;> omega
        have HTA := Lib.hid (turnAt_N ks nx)
        have HTU := Lib.hid (fun v (h1 : Row v b1 31 [.slice ka kl kc]) (h2 : Row v b2 3 [.int .i64 ((turnN ks nx : Nat) : Int)]) (hks : Sl .i64 v ka kl ks) => dturn b1 b2 (turnN ks nx) kl kc ka ks ((m : Int) - sn) v h1 h2 hks hnx1 ⟨hlo0, by omega⟩)
        have hkd : Hid (Sl .i64 (w4.drew) ka kl ks) := Lib.hid (HKS.out.ft FD.out HKA.out)
        obtain ⟨q, hq⟩ : ∃ q : Nat, (sn : Int) + keepV ks nx ((m : Int) - sn) = q := ⟨((sn : Int) + keepV ks nx ((m : Int) - sn)).toNat, by omega⟩
        obtain ⟨tv, htv⟩ : ∃ tv, keepV ks nx ((m : Int) - sn) = tv := ⟨_, rfl⟩
        rw [hkt, htv] at HTU
        have HSE := Lib.hid (show crN ks d.B d.s (k + 1) = (Bk.set k (Lk.take q), Sk.set k (q : Int), nx + 1) by rw [HST.out, if_neg hnz, hq, Int.toNat_natCast])
        have hqm : q ≤ m := by omega
        have hqs : sn ≤ q := by omega
        have hwq : IntKind.i64.wrap ((sn : Int) + tv) = (q : Int) := by rw [IntKind.wrap_i64, ← htv, hq]; omega
        obtain ⟨A, hA⟩ : ∃ A, turnN ks nx = A := ⟨_, rfl⟩
        rw [hA] at HTU TD HTA
        clear hkv hkt hq htv hnx1 hA
        refine region_h (fun v => v.cell? ⟨g, k * 2 + 1, none⟩ = some (.int .i64 (sn : Int))) (by kernel_rfl) (by kernel_rfl) (CC.out _ XD.out).2 ?_
        obtain ⟨wd, hwd⟩ : ∃ wd, w4.drew = wd := ⟨_, rfl⟩
        rw [hwd] at XD FD KD TD hkd ⊢
        clear hwd
        (refine h_read 0 rfl (by kernel_rfl) (by kernel_rfl) (h_free rfl) ?_ ?_ ?_; rotate_left; (focus (intro v hv; go_simp; rfl)); go_simp)
        (refine h_read 1 rfl (by kernel_rfl) (by kernel_rfl) (h_free rfl) ?_ ?_ ?_; rotate_left; (focus (intro v hv; go_simp; rfl)); go_simp)
        (refine h_read 2 rfl (by kernel_rfl) (by kernel_rfl) (h_free rfl) ?_ ?_ ?_; rotate_left; (focus (intro v hv; go_simp; rfl)); go_simp)
        (refine h_read 3 rfl (by kernel_rfl) (by kernel_rfl) (h_free rfl) ?_ ?_ ?_; rotate_left; (focus (intro v hv; go_simp; rfl)); go_simp)
        (refine h_read 4 rfl (by kernel_rfl) (by kernel_rfl) (h_free rfl) ?_ ?_ ?_; rotate_left; (focus (intro v hv; have xs := hv; go_simp; rfl)); go_simp)
        (refine h_read 5 rfl (by kernel_rfl) (by kernel_rfl) (h_free rfl) ?_ ?_ ?_; rotate_left; (focus (intro v hv; go_simp; rfl)); go_simp)
        (refine h_read 6 rfl (by kernel_rfl) (by kernel_rfl) (h_free rfl) ?_ ?_ ?_; rotate_left; (focus (intro v hv; go_simp; rfl)); go_simp)
        (refine h_call 7 rfl (by kernel_rfl) (h_free rfl) 36 ?_ ?_ ?_; rotate_left; (focus (go_simp; rfl)))
        refine (HSL.out wd (XD.out)).mono ?_
        rintro e w5 ⟨rfl, hb5⟩
        have X5 := Lib.hid (XD.out.mono hb5)
        have F5 := Lib.hid (FD.out.trans (Ft.of_below hb5))
        have T5 := Lib.hid (TD.out.below hb5 TD.out.lt)
        have K5 := Lib.hid (KD.out.below hb5 KD.out.lt)
        have SL5 : Hid (Sl .i64 w5 ka kl ks) := Lib.hid (HKS.out.ft F5.out HKA.out)
        have S5 := Lib.hid (CC.out w5 X5.out).2
        clear hb5
        refine ⟨_, rfl, S5.out, ?_⟩
        go_simp
        (refine h_call 8 rfl (by kernel_rfl) (h_free rfl) 41 ?_ ?_ ?_; rotate_left; (focus (go_simp; rfl)))
        refine (HTU.out w5 K5.out T5.out SL5.out).mono ?_
        rintro e w6 ⟨rfl, hr6, hg6⟩
        have T6 := Lib.hid hr6
        have hg7 := Ft.of_gw hg6
        have X6 := Lib.hid (X5.out.ft hg7 (fun b hb e => absurd (HX.out.lt b hb) (Nat.not_lt.2 (e ▸ L2.out))))
        have F6 := Lib.hid (F5.out.on hg7 (fun b e => .inr (e ▸ L2.out)))
        have K6 := Lib.hid (K5.out.ft hg7 (NE.out))
        have S6 := Lib.hid (CC.out w6 X6.out).2
        clear hr6 hg6 hg7
        refine ⟨_, rfl, S6.out, ?_⟩
        go_simp
        (refine h_read 9 rfl (by kernel_rfl) (by kernel_rfl) (h_free rfl) ?_ ?_ ?_; rotate_left; (focus (intro v hv; go_simp; rfl)); go_simp)
        (refine h_call 10 rfl (by kernel_rfl) (h_free rfl) 38 ?_ ?_ ?_; rotate_left; (focus (go_simp; rfl)))
        have hmin : min (sn : Int) (q : Int) = (sn : Int) := by omega
        have hcut := scut g k m vc q va (sn : Int) L' w6 X6.out.rg (by rw [X6.out.lb k hk', HV.out]) (by rw [X6.out.ls k hk']; rw [show ({ d with B := Bk, s := Sk } : DSt).s.getD k 0 = (sn : Int) from HSN.out]) hqm hvc hlen (by omega)
        rw [hmin] at hcut
        refine hcut.mono ?_
        rintro e w7 ⟨rfl, hr7, hu7⟩
        have P := X6.out.cutNow k q vc va hk' (by dsimp only; rw [HL.out, HM.out]; exact HV.out) (by dsimp only; rw [HL.out, HM.out]; exact hqm) (by dsimp only; rw [HSN.out, hmin]; exact hr7) hu7
        dsimp only at P
        rw [HL.out, HSN.out, hmin] at P
        have X7 := Lib.hid P.1
        have F7 := Lib.hid (F6.out.trans P.2)
        have K7 := Lib.hid (K6.out.upd hu7 (fun e => absurd (HX.out.lt g HX.out.sg) (Nat.not_lt.2 (e ▸ L1.out))))
        have T7 := Lib.hid (T6.out.upd hu7 (fun e => absurd (HX.out.lt g HX.out.sg) (Nat.not_lt.2 (e ▸ L2.out))))
        have hll := X6.out.ll
        dsimp only at hll
        have c0 : w7.cell? ⟨g, k * 2, none⟩ = some (.slice va q vc) := by rw [hr7.cellV, List.getElem?_set_ne (by omega), List.getElem?_set_self (by omega)]
        have c1 : w7.cell? ⟨g, k * 2 + 1, none⟩ = some (.int .i64 (sn : Int)) := by rw [hr7.cellV, List.getElem?_set_self (by rw [List.length_set]; omega)]
        have f1 := hr7.frozen (k * 2 + 1)
        clear hcut hu7 P hll hr7
        refine ⟨_, rfl, c1, ?_⟩
        go_simp
        refine h_done (by kernel_rfl) ?_
        go_wp2_with fail
        have P := X7.out.sureNow k (q : Int) (by dsimp only; rw [List.length_set]; exact hk') (X7.out.rg.setV _ _) (Upd.setCell _ _ _ _) (by dsimp only; rw [getD_set _ _ _ _ _ hk', if_pos rfl, List.length_take, HM.out]; omega)
        dsimp only at P
        simp only [List.set_set] at P
        have X8 := Lib.hid P.1
        have F8 := Lib.hid (F7.out.trans P.2)
        have K8 := Lib.hid (K7.out.upd (Upd.setCell w7 g (k * 2 + 1) (.int .i64 (q : Int))) (fun e => absurd (HX.out.lt g HX.out.sg) (Nat.not_lt.2 (e ▸ L1.out))))
        have T8 := Lib.hid (T7.out.upd (Upd.setCell w7 g (k * 2 + 1) (.int .i64 (q : Int))) (fun e => absurd (HX.out.lt g HX.out.sg) (Nat.not_lt.2 (e ▸ L2.out))))
        clear P
        go_roundw
        case rel => exact ⟨k + 1, nx + 1, _, _, vint (by omega), by omega, by rw [HSE.out], Lib.hid (by rw [HSE.out]; exact X8.out), F8, K8, Lib.hid (by rw [← HTA.out]; exact T8.out)⟩
        case measure => simp [intOf]; omega
    · obtain rfl : n = k := by omega
      go_wp2_with fail
      first | go_end0 | (refine bodyPost_ret (results_none rfl _ _ _) rfl ?_)
      exact ⟨rfl, L', vs', by rw [HCK.out]; exact X.out, F.out⟩
end Go.Proofs.Ytlohfalpcppcjaa.W
