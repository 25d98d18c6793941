/- LAYER 25 (board): lists.Fit; sizes, total, Total, Start, shares, own.Board. -/
import Derived.Test.YtkmdbdieloimiaaBdA
import Derived.Test.YtkmdbdieloimiaaCmX
import Derived.Test.YtkmdbdieloimiaaTwo
set_option linter.unusedSimpArgs false
set_option linter.unusedVariables false
namespace Go.Proofs.Ytkmdbdieloimiaa.W
open Go Go.ChangeShapes Go.WideShapes Go.ChangeAt Go.RowKit
open Go.Proofs.Ytkmdbdieloimiaa.S

def T40s (l : List Int) : Prop := ∀ x ∈ l, 0 ≤ x ∧ x ≤ 1099511627776
theorem T40s_sum {l : List Int} (h : T40s l) : 0 ≤ l.sum ∧ l.sum ≤ (l.length : Int) * 1099511627776 := by
  induction l with
  | nil => simp
  | cons x l ih =>
    have h1 := h x (by simp)
    have h2 := ih (fun y hy => h y (by simp [hy]))
    simp only [List.sum_cons, List.length_cons]
    omega
set_option maxHeartbeats 1000000 in
theorem lfit (most : Int) (a : Option Addr) (len cap : Nat) (l : List Int) (w : World) (hrow : Sl .i64 w a len l) (hp : T40s l) (h8 : len ≤ 8) :
    Calls Try.prog 31 #[.int .i64 most, .slice a len cap] w fun e w' => e = .returned (.bool (decide (l.sum ≤ most))) ∧ w = w' := by
  obtain ⟨hl, hmax, hb, hc⟩ := hrow
  by_cases h0 : len = 0
  · subst h0
    have : l = [] := List.eq_nil_of_length_eq_zero hl
    subst this
    clear hb hc hl hmax hp
    obtain ⟨V, hV⟩ : ∃ V, decide (([] : List Int).sum ≤ most) = V := ⟨_, rfl⟩
    rw [hV]
    have HV := Lib.hid hV
    clear hV
    go_enter Try.func31, Try.ntmps31
    go_wp2
    go_loop [5, 12] (fun s i => s = .int .i64 0 ∧ i = .int .i64 0) (fun _ _ => 0)
    case atStart => exact ⟨rfl, rfl⟩
    case round =>
      obtain ⟨rfl, rfl⟩ := hrel
      go_wp2
      go_ret
      exact ⟨one (vbool (by rw [← HV.out]; exact decide_eq_decide.2 (by simp))), rfl⟩
  obtain ⟨b, off, rfl, hlt0, hcell⟩ := hc.resolve_left h0
  clear hlt0
  have HC := Lib.hid hcell
  have HL := Lib.hid hl
  have HP := Lib.hid hp
  clear hcell hb hc hl hp
  go_enter Try.func31, Try.ntmps31
  go_wp2
  go_loop [5, 12] (fun s i => ∃ (k : Nat) (x : Int), k ≤ len ∧ i = .int .i64 k ∧ s = .int .i64 x ∧ 0 ≤ x ∧ x ≤ 8796093022208 ∧ Hid (x = (l.take k).sum)) (fun _ i => len - (intOf i).toNat)
  case atStart => exact ⟨0, 0, Nat.zero_le _, rfl, rfl, by omega, by omega, Lib.hid rfl⟩
  case round =>
    obtain ⟨k, x, hk, rfl, rfl, x1, x2, HS⟩ := hrel
    by_cases hlt : k < len
    · have hcell := HC.out k hlt
      have hk' : k < l.length := by rw [HL.out]; exact hlt
      have e : l.getD k 0 = l[k] := by simp [hk']
      obtain ⟨n, hn⟩ : ∃ n, l[k] = n := ⟨_, rfl⟩
      have hnx := HP.out l[k] (List.getElem_mem _)
      have hst : (l.take (k + 1)).sum = x + n := by
        rw [List.take_succ_eq_append_getElem hk', List.sum_append, HS.out, ← hn]; simp
      have hsm := T40s_sum (l := l.take (k + 1)) (fun y hy => HP.out y (List.mem_of_mem_take hy))
      rw [hst] at hsm
      have hln : ((l.take (k + 1)).length : Int) ≤ 8 := by rw [List.length_take, HL.out]; omega
      have hub : x + n ≤ 8796093022208 := by have := hsm.2; omega
      rw [e, hn] at hcell
      rw [hn] at hnx
      have HT := Lib.hid hst
      have hn0 := hnx.1
      have hn1 := hnx.2
      clear hst hsm hln hnx e hn hk'
      go_wp2_with (go_at_call 58; (with_reducible refine (nadd_in _ _ _ ?_ ?_ ?_ ?_ ?_ ?_).mono ?_); (focus omega); (focus omega); (focus omega); (focus omega); (focus omega); (focus omega); rintro e w' ⟨rfl, rfl⟩)
      go_round
      case rel => exact ⟨k + 1, x + n, by omega, by go_num, rfl, by omega, by omega, Lib.hid HT.out.symm⟩
      case measure => simp [intOf]; omega
    · obtain rfl : k = len := by omega
      have e : l.take k = l := List.take_of_length_le (by rw [HL.out]; omega)
      have hs := HS.out
      rw [e] at hs
      obtain ⟨v, hv⟩ : ∃ v, decide (l.sum ≤ most) = v := ⟨_, rfl⟩
      have HV := Lib.hid hv
      rw [← hs] at hv
      have HX := Lib.hid hs
      clear hs e
      by_cases hm : x ≤ most
      · rw [decide_eq_true hm] at hv
        subst hv
        go_wp2
        go_ret
        exact ⟨one (vbool (by rw [HV.out])), rfl⟩
      · rw [decide_eq_false hm] at hv
        subst hv
        go_wp2
        go_ret
        exact ⟨one (vbool (by rw [HV.out])), rfl⟩

theorem owr_set1 {w' w : World} {g n c : Nat} {R : List Int} {Z : List Value} (h : OwR intE w g n c R Z) (m : Nat) (x : Int) (hm : m < n) (hr : Row w' g 3 ((flatE intE R ++ Z).set m (.int .i64 x))) : OwR intE w' g n c (R.set m x) Z := by
  refine h.set intOk m x hm ?_
  have hl : m < (flatE intE R ++ Z).length := by rw [h.hl]; show m < c * 1; have := h.hnc; omega
  have e : splice (flatE intE R ++ Z) (m * intE.k) (intE.cells x) = (flatE intE R ++ Z).set m (.int .i64 x) := by
    rw [List.set_eq_take_append_cons_drop, if_pos hl]
    unfold splice
    show List.take (m * 1) _ ++ ([Value.int .i64 x] ++ List.drop (m * 1 + 1) _) = _
    rw [Nat.mul_one]; rfl
  rw [e]; exact hr
theorem flat_rep0 : ∀ n : Nat, flatE intE (List.replicate n 0) = List.replicate n (.int .i64 0)
  | 0 => rfl
  | n + 1 => by
    have ih := flat_rep0 n
    unfold flatE at ih ⊢
    rw [List.replicate_succ, List.flatMap_cons, ih]; rfl
theorem owr_new (w : World) (g n : Nat) (h : Row w g 3 (List.replicate n (.int .i64 0))) (hn : n ≤ maxLen) : OwR intE w g n n (List.replicate n 0) [] := by
  have e := flat_rep0 n
  refine ⟨by rw [List.append_nil, e]; exact h, by simp, Nat.le_refl _, hn, ?_⟩
  rw [List.append_nil, e]; show (List.replicate n _).length = n * 1; simp
set_option maxRecDepth 100000 in
set_option maxHeartbeats 16000000 in
theorem bdsizes (a : Option Addr) (n c : Nat) (L : List Sh) (w : World) (h : Ls shE w a n c L) (hn : n ≤ 1000) :
    Calls Try.prog 32 #[.slice a n c] w fun x w' => ∃ v, x = .returned v ∧ LsO intE w' w.heap.size v (L.map Sh.by') ∧ Below w.heap.size w w' := by
  have H := Lib.hid h
  have HL := Lib.hid h.hlen
  have hm := h.hmax
  have hle := h.hle
  have SZ := Lib.hid sh_size
  have EZ := Lib.hid sh_zero
  have gn : (n : Int) ≤ 1000 := by omega
  have IZ := Lib.hid (show (Try.prog.info? 3).map (fun i => (i.zero, i.size, i.bytes)) = some (some (.int .i64 0), 1, 8) from infoInt19)
  clear h
  go_enter Try.func32, Try.ntmps32
  go_wp2_with (first
    | ((with_reducible refine make_one (o := ⟨some 8, _, _, _, _, _⟩) rfl _ _ _ rfl 3 (.int .i64 0) 8 Try.underlying67 IZ.out rfl (n : Int) n ?_ ?_ rfl (by omega) (by omega) ?_); (focus (first | (go_simp; done) | (go_simp; rfl))); (focus (first | (go_simp; done) | (go_simp; rfl))); intro w1 hr hb hz; have G1 := Lib.hid (owr_new w1 w.heap.size n hr (by unfold maxLen; omega)); have B1 := Lib.hid hb; have S1 := Lib.hid (show w.heap.size < w1.heap.size by omega); clear hr hb hz))
  go_loopw [11] (fun i wr => ∃ (k : Nat) (R : List Int), i = .int .i64 (k : Int) ∧ k ≤ n ∧ Hid (R.length = n) ∧ Hid (R.take k = (L.take k).map Sh.by') ∧ Hid (OwR intE wr w.heap.size n n R []) ∧ Hid (Below w.heap.size w wr)) (fun i _ => n - (intOf i).toNat)
  case atStart => exact ⟨0, List.replicate n 0, rfl, Nat.zero_le _, Lib.hid (by simp), Lib.hid rfl, G1, B1⟩
  case round =>
    obtain ⟨k, R, rfl, hk, HR, HT, G, B⟩ := hrel
    by_cases hlt : k < n
    · obtain ⟨b, off, x, rfl, hx, hcell, -⟩ := H.out.at shOk B.out k hlt
      have HNX := Lib.hid (show (L.take (k + 1)).map Sh.by' = (L.take k).map Sh.by' ++ [x.by'] by
        rw [List.take_succ_eq_append_getElem (by rw [HL.out]; exact hlt), List.map_append]
        rw [List.getElem?_eq_getElem (by rw [HL.out]; exact hlt)] at hx
        rw [Option.some.inj hx]; rfl)
      have XC := Lib.hid hcell
      obtain ⟨xl, xb⟩ := x
      have g1 : (0 : Int) ≤ (k : Int) := by omega
      have g2 : (k : Int) < (n : Int) := by omega
      clear hx hcell
      go_wp2_with (first
        | ((with_reducible refine load_cells (o := ⟨some 15, _, _, _, _, _⟩) rfl _ _ rfl b (off + k * 2) ?_ [.int .i64 xl, .int .i64 xb] _ XC.out Try.underlying58 rfl ?_ ?_); (focus go_simp); (focus (exact SZ.out)))
        | ((with_reducible refine alloc_row (o := ⟨some 5, _, _, _, _, _⟩) rfl _ rfl _ EZ.out ?_); intro w6 hr hb hz; have E6 := Lib.hid hr; have G6 := Lib.hid (G.out.below hb); have B6 := Lib.hid (B.out.trans (hb.mono B.out.size)); have GL := Lib.hid G.out.row.lt; clear hr hb hz)
        | ((with_reducible refine store_row (o := ⟨none, _, _, _, _, _⟩) rfl _ (.tmp 5) _ rfl wr.heap.size [.int .i64 xl, .int .i64 xb] ?_ ?_ 58 _ E6.out ?_ ?_ ?_ ?_); (focus go_simp); (focus (first | (go_simp; done) | (go_simp; rfl))); (focus (exact SZ.out)); (focus rfl); (focus (exact shOk.one ⟨xl, xb⟩)); intro w7 hr hu; obtain ⟨c0, c1⟩ := hr.k2; have G7 := Lib.hid (G6.out.upd hu (Nat.ne_of_lt GL.out)); have B7 := Lib.hid (B6.out.trans (hu.below B.out.size)); clear hr hu)
        | ((with_reducible refine store_cell (o := ⟨none, _, _, _, _, _⟩) rfl _ (.tmp 20) _ rfl w.heap.size k (.int .i64 xb) ?_ ?_ rfl rfl 3 _ G7.out.row ?_ ?_ ?_); (focus (first | (go_simp; done) | (go_simp; simp; done) | (go_simp; omega))); (focus go_simp); (focus (kernel_rfl)); (focus (rw [G7.out.hl]; show k < n * 1; omega)); intro w8 hr hu; have G8 := Lib.hid (owr_set1 G7.out k xb hlt hr); have B8 := Lib.hid (B7.out.trans (hu.below (Nat.le_refl _))); clear hr hu))
      go_roundw
      case rel => exact ⟨k + 1, R.set k xb, vint (by omega), by omega, Lib.hid (by rw [List.length_set]; exact HR.out), Lib.hid (by rw [set_takeS R k xb (by rw [HR.out]; exact hlt), HT.out, HNX.out]), G8, B8⟩
      case measure => simp [intOf]; omega
    · obtain rfl : n = k := by omega
      have HF := Lib.hid (show R = L.map Sh.by' by
        have h1 := HT.out
        rw [List.take_of_length_le (by rw [HR.out]; exact Nat.le_refl _), List.take_of_length_le (by rw [HL.out]; exact Nat.le_refl _)] at h1
        exact h1)
      have ho := Lib.hid (show LsO intE wr w.heap.size (.slice (some ⟨w.heap.size, 0, none⟩) n n) (L.map Sh.by') by
        have h1 := G.out.lso intOk (Nat.le_refl _) n (Nat.le_refl _)
        rw [List.take_of_length_le (by rw [HR.out]; exact Nat.le_refl _), HF.out] at h1
        exact h1)
      go_wp2_with fail
      go_ret
      exact ⟨_, rfl, ho.out, B.out⟩
theorem sum_sl {w : World} {base : Nat} {v : Value} {L : List Int} (h : LsO intE w base v L) (hf : ∀ x ∈ L, SI64 x) (n : Nat) (hn : L.length = n) : ∃ a c, v = .slice a n c ∧ Ls intE w a n c L ∧ Sl .i64 w a n L := by
  subst hn
  obtain ⟨a, c, e, hl, -⟩ := h.ls intOk hf
  exact ⟨a, c, e, hl, hl.sl⟩
def totV (L : List Sh) : Int := (sumG 9223372036854775807 0 (L.map Sh.by')).1
theorem pbtotal1 (a : Option Addr) (n c : Nat) (l : List Int) (w : World) (h : Sl .i64 w a n l) : Calls Try.prog 40 #[.slice a n c] w fun x w' => x = .returned (.int .i64 (sumG 9223372036854775807 0 l).1) ∧ w = w' := by
  have HS := Lib.hid (nsum 9223372036854775807 a n c l w h)
  obtain ⟨p, q, hpq⟩ : ∃ p q, sumG 9223372036854775807 0 l = (p, q) := ⟨_, _, rfl⟩
  rw [hpq] at HS ⊢
  clear h hpq
  go_enter Try.func40, Try.ntmps40
  go_wp2_with (go_at_call 62; (with_reducible refine HS.out.mono ?_); rintro x w' ⟨rfl, rfl⟩)
  go_ret
  exact ⟨rfl, rfl⟩
theorem by_fit {L : List Sh} (h : ∀ s ∈ L, s.fit) : ∀ x ∈ L.map Sh.by', SI64 x := by
  intro x hx
  obtain ⟨s, hs, rfl⟩ := List.mem_map.1 hx
  exact (h s hs).by'
set_option maxRecDepth 100000 in
set_option maxHeartbeats 8000000 in
theorem pbtotal (v : Value) (b : Bd) (w : World) (h : BdV w v b) (hn : b.L.length ≤ 1000) : Calls Try.prog 11 #[v] w fun x w' => x = .returned (.int .i64 (totV b.L)) ∧ Below w.heap.size w w' := by
  obtain ⟨a, n, c, rfl, hc, hL⟩ := h
  obtain ⟨cp, L⟩ := b
  dsimp only at hc hL hn ⊢
  have HZ := Lib.hid (fun w' (hb : Below w.heap.size w w') => bdsizes a n c L w' (hL.mono shOk hb) (by rw [← hL.hlen]; exact hn))
  have HF := Lib.hid (by_fit hL.hfit)
  have HN := Lib.hid (show (L.map Sh.by').length = n by rw [List.length_map]; exact hL.hlen)
  clear hL hn
  go_enter Try.func11, Try.ntmps11
  go_wp2_with (first
    | ((with_reducible refine box_row (o := ⟨some 1, _, _, _, _, _⟩) rfl _ _ rfl (bdC cp a n c) rfl ?_); intro w1 hr hb hz; obtain ⟨c0, c1⟩ := hr.k2; have B1 := Lib.hid hb; clear hr hb hz)
    | (go_at_call 32; (with_reducible refine (HZ.out w1 B1.out).mono ?_); rintro x w2 ⟨v2, rfl, hl, hb⟩; obtain ⟨a2, c2, rfl, hls, hsl⟩ := sum_sl hl HF.out n HN.out; have S2 := Lib.hid hsl; have B2 := Lib.hid (B1.out.trans (hb.mono B1.out.size)); clear hl hls hsl hb)
    | (go_at_call 40; (with_reducible refine (pbtotal1 a2 n c2 (L.map Sh.by') w2 S2.out).mono ?_); rintro x w' ⟨rfl, rfl⟩))
  go_ret
  exact ⟨rfl, B2.out⟩
-- ---- Start
def capV (x : Int) : Int := min (max x 0) 1099511627776
theorem built_bd0 (x : Int) : Try.prog.built 25 [(0, .int .i64 x)] = some (bdC x none 0 0).toArray := by kernel_rfl
theorem capV_in (x : Int) : 0 ≤ capV x ∧ capV x ≤ 1099511627776 := by
  unfold capV; omega
set_option maxRecDepth 100000 in
set_option maxHeartbeats 4000000 in
theorem pbstart (x : Int) (w : World) (hx : SI64 x) : Calls Try.prog 5 #[.int .i64 x] w fun e w' => e = .returned (.agg (bdC (capV x) none 0 0).toArray) ∧ Below w.heap.size w w' := by
  have LZ := Lib.hid bd_zero
  have LZS := Lib.hid bd_size
  unfold capV
  go_enter Try.func5, Try.ntmps5
  go_wp2_with (first
    | ((with_reducible refine alloc_row (o := ⟨some 2, _, _, _, _, _⟩) rfl _ rfl _ LZ.out ?_); intro w1 hr hb hz; have R1 := Lib.hid hr; have B1 := Lib.hid hb; clear hr hb hz)
    | ((with_reducible refine build_row (o := ⟨some 6, _, _, _, _, _⟩) rfl _ _ rfl (bdC (min (max x 0) 1099511627776) none 0 0) ?_ ?_); (focus (go_simp; exact built_bd0 _)))
    | ((with_reducible refine store_row (o := ⟨none, _, _, _, _, _⟩) rfl _ (.tmp 2) _ rfl w.heap.size (bdC (min (max x 0) 1099511627776) none 0 0) ?_ ?_ 25 _ R1.out ?_ ?_ ?_ ?_); (focus go_simp); (focus (first | (go_simp; done) | (go_simp; rfl))); (focus (exact LZS.out)); (focus rfl); (focus (exact bd_one _ _ _ _)); intro w2 hr hu; have R2 := Lib.hid hr; have B2 := Lib.hid (B1.out.trans (hu.below (Nat.le_refl _))); clear hr hu))
  exact bodyPost_ret (results_cell_row rfl _ _ w.heap.size 25 _ _ _ (by go_simp) R2.out Try.underlying25 rfl LZS.out) rfl ⟨rfl, B2.out⟩
set_option maxRecDepth 100000 in
set_option maxHeartbeats 4000000 in
theorem zbstart (x : Int) (w : World) (hx : SI64 x) : Calls Try.prog 7 #[.int .i64 x] w fun e w' => e = .returned (.agg (bdC (capV x) none 0 0).toArray) ∧ Below w.heap.size w w' := by
  have LZ := Lib.hid bd_zero
  have LZS := Lib.hid bd_size
  unfold capV
  go_enter Try.func7, Try.ntmps7
  go_wp2_with (first
    | ((with_reducible refine alloc_row (o := ⟨some 2, _, _, _, _, _⟩) rfl _ rfl _ LZ.out ?_); intro w1 hr hb hz; have R1 := Lib.hid hr; have B1 := Lib.hid hb; clear hr hb hz)
    | ((with_reducible refine build_row (o := ⟨some 6, _, _, _, _, _⟩) rfl _ _ rfl (bdC (min (max x 0) 1099511627776) none 0 0) ?_ ?_); (focus (go_simp; exact built_bd0 _)))
    | ((with_reducible refine store_row (o := ⟨none, _, _, _, _, _⟩) rfl _ (.tmp 2) _ rfl w.heap.size (bdC (min (max x 0) 1099511627776) none 0 0) ?_ ?_ 25 _ R1.out ?_ ?_ ?_ ?_); (focus go_simp); (focus (first | (go_simp; done) | (go_simp; rfl))); (focus (exact LZS.out)); (focus rfl); (focus (exact bd_one _ _ _ _)); intro w2 hr hu; have R2 := Lib.hid hr; have B2 := Lib.hid (B1.out.trans (hu.below (Nat.le_refl _))); clear hr hu))
  exact bodyPost_ret (results_cell_row rfl _ _ w.heap.size 25 _ _ _ (by go_simp) R2.out Try.underlying25 rfl LZS.out) rfl ⟨rfl, B2.out⟩
-- ---- own.Board
set_option maxRecDepth 100000 in
set_option maxHeartbeats 4000000 in
theorem owboard (cp : Int) (a : Option Addr) (n c : Nat) (L : List Sh) (w : World) (h : Ls shE w a n c L) (hn : n ≤ 1000) :
    Calls Try.prog 26 #[.agg (bdC cp a n c).toArray] w fun x w' => ∃ a2 c2, x = .returned (.agg (bdC cp a2 n c2).toArray) ∧ LsO shE w' w.heap.size (.slice a2 n c2) L ∧ Below w.heap.size w w' := by
  have LZS := Lib.hid bd_size
  have LZ := Lib.hid bd_zero
  have HC := Lib.hid (fun w' (hb : Below w.heap.size w w') => shclone a n c L w' (h.mono shOk hb) (by omega))
  clear h
  go_enter Try.func26, Try.ntmps26
  go_wp2_with (first
    | ((with_reducible refine box_row (o := ⟨some 1, _, _, _, _, _⟩) rfl _ _ rfl (bdC cp a n c) rfl ?_); intro w1 hr hb hz; have R1 := Lib.hid hr; have B1 := Lib.hid hb; have B1S := Lib.hid (show w.heap.size < w1.heap.size by omega); clear hr hb hz)
    | ((with_reducible refine alloc_row (o := ⟨some 2, _, _, _, _, _⟩) rfl _ rfl _ LZ.out ?_); intro w2 hr hb hz; have R22 := Lib.hid hr; have R12 := Lib.hid (R1.out.below hb R1.out.lt); obtain ⟨c0, c1⟩ := R12.out.k2; have B2 := Lib.hid (B1.out.trans (hb.mono B1.out.size)); clear hr hb hz c0)
    | (go_at_call 29; (with_reducible refine (HC.out w2 B2.out).mono ?_); rintro x w3 ⟨a3, c3, rfl, hown, hb⟩; have O3 := Lib.hid hown; have R13 := Lib.hid (R12.out.below hb R12.out.lt); have R23 := Lib.hid (R22.out.below hb R22.out.lt); have B3 := Lib.hid (B2.out.trans (hb.mono B2.out.size)); clear hown hb c1)
    | ((with_reducible refine store_cell (o := ⟨none, _, _, _, _, _⟩) rfl _ (.tmp 6) _ rfl w.heap.size 1 (.slice a3 n c3) ?_ ?_ rfl rfl 25 _ R13.out ?_ ?_ ?_); (focus go_simp); (focus go_simp); (focus (kernel_rfl)); (focus (show 1 < 2; decide)); intro w4 hr hu; have R14 := Lib.hid (show Row w4 w.heap.size 25 (bdC cp a3 n c3) from hr); have R24 := Lib.hid (R23.out.upd hu (Nat.ne_of_gt B1S.out)); have O4 := Lib.hid (O3.out.upd hu (fun e => absurd (World.ownsRow.lt O3.out _ e).1 (Nat.not_le_of_lt R12.out.lt))); have B4 := Lib.hid (B3.out.trans (hu.below (Nat.le_refl _))); clear hr hu)
    | ((with_reducible refine load_row (o := ⟨some 7, _, _, _, _, _⟩) rfl _ _ rfl w.heap.size ?_ _ (bdC cp a3 n c3) _ R14.out Try.underlying25 rfl ?_ ?_); (focus go_simp); (focus (exact LZS.out)))
    | ((with_reducible refine store_row (o := ⟨none, _, _, _, _, _⟩) rfl _ (.tmp 2) _ rfl w1.heap.size (bdC cp a3 n c3) ?_ ?_ 25 _ R24.out ?_ ?_ ?_ ?_); (focus go_simp); (focus (first | (go_simp; done) | (go_simp; rfl))); (focus (exact LZS.out)); (focus rfl); (focus (exact bd_one _ _ _ _)); intro w5 hr hu; have R25 := Lib.hid hr; have O5 := Lib.hid (O4.out.upd hu (fun e => absurd (World.ownsRow.lt O4.out _ e).1 (Nat.not_le_of_lt R22.out.lt))); have B5 := Lib.hid (B4.out.trans (hu.below B1.out.size)); clear hr hu))
  exact bodyPost_ret (results_cell_row rfl _ _ w1.heap.size 25 _ _ _ (by go_simp) R25.out Try.underlying25 rfl LZS.out) rfl ⟨_, _, rfl, O5.out.base B2.out.size, B5.out⟩
-- ---- shares
def gives (m : Cm) : Bool := decide (m.kd = 11) && (in64 m.nu 1 4 && in64 m.by' 0 1099511627776)
set_option maxRecDepth 100000 in
set_option maxHeartbeats 8000000 in
theorem pbshares (x : CmX) (w : World) : Calls Try.prog 27 #[.agg x.cells.toArray] w fun e w' => e = .returned (.bool (gives x.m)) ∧ Below w.heap.size w w' := by
  obtain ⟨⟨cl, sq, kd, id, ep, V, sp, nm, nu, by1, ti, PL⟩, va, vn, vc, pa, pn, pc⟩ := x
  obtain ⟨b0, h0⟩ : ∃ q, (kd == 11) = q := ⟨_, rfl⟩
  obtain ⟨b1, h1⟩ : ∃ q, in64 nu 1 4 = q := ⟨_, rfl⟩
  obtain ⟨b2, h2⟩ : ∃ q, in64 by1 0 1099511627776 = q := ⟨_, rfl⟩
  have HX := Lib.hid (show gives ⟨cl, sq, kd, id, ep, V, sp, nm, nu, by1, ti, PL⟩ = (b0 && (b1 && b2)) by rw [← h0, ← h1, ← h2]; rfl)
  have H1 := Lib.hid h1
  have H2 := Lib.hid h2
  clear h1 h2
  cases b0
  all_goals (cases b1 <;> cases b2)
  all_goals
    go_enter Try.func27, Try.ntmps27
    go_wp2_with (first
      | ((with_reducible refine box_row (o := ⟨some 1, _, _, _, _, _⟩) rfl _ _ rfl (cmC cl sq kd id ep va vn vc sp nm nu by1 ti pa pn pc) rfl ?_); intro w1 hr hb hz; have B1 := Lib.hid hb; have c2 := hr.cm'.c2; have c8 := hr.cm'.c8; have c9 := hr.cm'.c9; clear hr hb hz)
      | (go_at_call 55; (with_reducible refine (pin nu 1 4 _ H1.out _).mono ?_); rintro x w' ⟨rfl, rfl⟩)
      | (go_at_call 55; (with_reducible refine (pin by1 0 1099511627776 _ H2.out _).mono ?_); rintro x w' ⟨rfl, rfl⟩))
    go_ret
    exact ⟨one (vbool (by rw [HX.out]; first | done | rfl | simp_all)), B1.out⟩
end Go.Proofs.Ytkmdbdieloimiaa.W
