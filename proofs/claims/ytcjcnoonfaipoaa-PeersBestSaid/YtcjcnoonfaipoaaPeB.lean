/- LAYER 12 (peers): the law PeersBest. -/
import Derived.Test.YtcjcnoonfaipoaaPeO
set_option linter.unusedSimpArgs false
set_option linter.unusedVariables false
namespace Go.Proofs.Ytcjcnoonfaipoaa.W
open Go Go.ChangeShapes Go.WideShapes Go.ChangeAt Go.RowKit
open Go.Proofs.Ytcjcnoonfaipoaa.B (hasV elV bitsV mem mem_and mem_ref cntM cnt T bits_127 cntM_le lsN lsN_len lsN_lt mlN nGe nGt Best)

/-- the first i members of which p holds, as a set -/
structure Hv (c : Int) (ms : List Int) (p : Int → Bool) (i : Nat) (X : Int) : Prop where
  lo : -9223372036854775808 ≤ X
  hi : X ≤ 9223372036854775807
  at_ : ∀ k : Nat, k < 7 → mem X (k : Int) = (decide (k ∈ (mlN c).take i) && p (ms.getD k 0))
theorem Hv.zero (c : Int) (ms : List Int) (p : Int → Bool) : Hv c ms p 0 0 := ⟨by decide, by decide, fun k hk => by
  have h : ∀ k : Fin 7, mem 0 (k.val : Int) = false := by decide
  rw [List.take_zero]; simpa using h ⟨k, hk⟩⟩
theorem Hv.skip {c : Int} {ms : List Int} {p : Int → Bool} {i j : Nat} {X : Int} (h : Hv c ms p i X) (hj : (mlN c)[i]? = some j) (hp : p (ms.getD j 0) = false) : Hv c ms p (i + 1) X := by
  refine ⟨h.lo, h.hi, fun k hk => ?_⟩
  rw [h.at_ k hk]
  obtain ⟨hi, rfl⟩ := List.getElem?_eq_some_iff.1 hj
  rw [List.take_succ_eq_append_getElem hi]
  by_cases e : k = (mlN c)[i]
  · subst e; rw [hp, Bool.and_false, Bool.and_false]
  · congr 1
    rw [decide_eq_decide, List.mem_append, List.mem_singleton]
    exact ⟨.inl, fun h => h.resolve_right e⟩
theorem Hv.put {c : Int} {ms : List Int} {p : Int → Bool} {i j : Nat} {X : Int} (h : Hv c ms p i X) (hj : (mlN c)[i]? = some j) (hp : p (ms.getD j 0) = true) : Hv c ms p (i + 1) (bits .or .i64 X (elV (j : Int))) := by
  obtain ⟨hi, rfl⟩ := List.getElem?_eq_some_iff.1 hj
  have hr := B.wrap_rng ((B.U X ||| B.U (elV ((mlN c)[i] : Int)) : Nat) : Int)
  rw [← B.or_i64] at hr
  refine ⟨hr.1, hr.2, fun k hk => ?_⟩
  have hk7 : (mlN c)[i] < 7 := (lsN_lt _ 7 _ (List.getElem_mem hi)).1
  rw [B.mem_nat _ k (by omega), B.T_or, ← B.mem_nat X k (by omega), h.at_ k hk, B.T_el, List.take_succ_eq_append_getElem hi]
  by_cases e : k = (mlN c)[i]
  · subst e; rw [hp, Bool.and_true, Bool.and_true]
    rw [decide_eq_true (show 0 ≤ ((mlN c)[i] : Int) ∧ ((mlN c)[i] : Int) ≤ 61 ∧ ((mlN c)[i] : Int) = ((mlN c)[i] : Int) from ⟨by omega, by omega, rfl⟩), Bool.or_true]
    exact (decide_eq_true (List.mem_append.2 (.inr (List.mem_singleton.2 rfl)))).symm
  · rw [decide_eq_false (show ¬ (0 ≤ ((mlN c)[i] : Int) ∧ ((mlN c)[i] : Int) ≤ 61 ∧ (k : Int) = ((mlN c)[i] : Int)) from fun h => e (by omega)), Bool.or_false]
    congr 1
    rw [decide_eq_decide, List.mem_append, List.mem_singleton]
    exact ⟨.inl, fun h => h.resolve_right e⟩
theorem Hv.quo {c : Int} {ms : List Int} {p : Int → Bool} {X : Int} (h : Hv c ms p (cntM c) X) : quoM c X = decide ((vals c ms).length < 2 * (vals c ms).countP p) := by
  unfold quoM
  rw [vals_len]
  have e : cnt (fun k => mem c (k : Int) && mem X (k : Int)) 7 = (vals c ms).countP p := by
    unfold vals mlN
    rw [List.countP_map, B.countP_lsN]
    refine B.cnt_congr _ _ 7 fun k hk => ?_
    rw [h.at_ k hk, List.take_of_length_le (by rw [B.mlN_len]; exact Nat.le_refl _)]
    show (mem c (k : Int) && (decide (k ∈ mlN c) && p (ms.getD k 0))) = (mem c (k : Int) && p (ms.getD k 0))
    cases hm : mem c (k : Int)
    · rfl
    · have : k ∈ mlN c := by
        have hin : ∀ n, k < n → mem c (k : Int) = true → k ∈ lsN (fun k => mem c (k : Int)) n := by
          intro n
          induction n with
          | zero => intro h; omega
          | succ n ih =>
            intro h1 h2
            rw [lsN, List.mem_append]
            by_cases e : k = n
            · subst e; right; simp [h2]
            · exact .inl (ih (by omega) h2)
        exact hin 7 hk hm
      simp [this]
  rw [e]
theorem some_member : ∀ c : Fin 128, c.val ≠ 0 → cntM (c.val : Int) ≠ 0 := by decide +kernel
theorem vals_ne {c : Int} {ms : List Int} (h : chkM c = 0) : vals c ms ≠ [] := by
  intro e
  have h1 := vals_len c ms
  rw [e] at h1
  unfold chkM at h
  split at h
  · rename_i hc
    have h2 := some_member ⟨c.toNat, by omega⟩ (by simp; omega)
    have h3 : ((c.toNat : Nat) : Int) = c := by omega
    simp only at h2
    rw [h3] at h2
    exact h2 h1.symm
  · cases h

set_option maxRecDepth 100000 in
set_option maxHeartbeats 4000000 in
theorem law_PeersBest (c : Int) (ms : List Int) (w : World) (w0 : (Lit.int .i64 c).wf = true) (hms : ms.length = 7) :
    Calls Try.prog 5 #[.int .i64 c, .agg (ms.map (Value.int .i64)).toArray] w fun e w' => e = .returned (.bool true) ∧ Below w.heap.size w w' := by
  clear w0
  obtain ⟨L, hL⟩ : ∃ L, ms.map (Value.int .i64) = L := ⟨_, rfl⟩
  have HMS := Lib.hid hL
  have HM7 := Lib.hid hms
  have HP := Lib.hid (fun w => pmatch_v c ms hms w)
  have HS := Lib.hid (sevenSize ms hms)
  rw [hL] at HP HS ⊢
  rcases chk01 c with hc | hc
  · obtain ⟨b, hb⟩ : ∃ b, bestV (vals c ms) = b := ⟨_, rfl⟩
    have hbest : Best (vals c ms) b := by rw [← hb]; exact bestV_is _
    rcases hbest with ⟨e, -⟩ | ⟨-, hge, hgt⟩
    · exact absurd e (vals_ne hc)
    have HQ1 : Hid (∀ X, Hv c ms (fun x => decide (b ≤ x)) (cntM c) X → quoM c X = true) := Lib.hid (fun X h => by rw [h.quo]; exact decide_eq_true hge)
    have HQ2 : Hid (∀ X, Hv c ms (fun x => decide (b < x)) (cntM c) X → quoM c X = false) := Lib.hid (fun X h => by rw [h.quo]; exact decide_eq_false (show ¬ (vals c ms).length < 2 * nGt (vals c ms) b by omega))
    obtain ⟨n, hn⟩ : ∃ n, cntM c = n := ⟨_, rfl⟩
    have hn7 : n ≤ 7 := by rw [← hn]; exact cntM_le _
    have hat : ∀ i, i < n → ∃ j : Nat, j < 7 ∧ (mlI c).getD i 0 = (j : Int) ∧ (mlN c)[i]? = some j := by
      intro i hi
      have hi : i < (mlN c).length := by rw [B.mlN_len, hn]; exact hi
      refine ⟨(mlN c)[i], (lsN_lt _ 7 _ (List.getElem_mem hi)).1, ?_, by simp [hi]⟩
      show ((mlN c).map Int.ofNat).getD i 0 = _
      simp [hi]
    have HU := Lib.hid (fun w => (plist c w).mono (fun e w' (h : ∃ v, e = .returned v ∧ OwI w' w.heap.size v (mlI c) ∧ Below w.heap.size w w') => show ∃ a cap, e = .returned (.slice a n cap) ∧ Sl .i64 w' a n (mlI c) ∧ Below w.heap.size w w' from by
      obtain ⟨v, rfl, ho, hbw⟩ := h
      obtain ⟨a, cap, rfl, -, -, hs⟩ := ho.form (mlI_wf c)
      rw [mlI_len, hn] at hs ⊢
      exact ⟨a, cap, rfl, hs, hbw⟩))
    rw [hb] at HP
    rw [hn] at HQ1 HQ2
    have HC := Lib.hid hc
    have HAT := Lib.hid hat
    clear hb hn hms hL hc hat hge hgt
    go_enter Try.func5, Try.ntmps5
    go_wp2_with (first
      | (with_reducible refine box_row (o := ⟨some 3, _, _, _, _, _⟩) rfl _ _ rfl L rfl ?_; intro w1 hr1 hb1 hz1; have R1 := Lib.hid hr1; have B1 := Lib.hid hb1; have Z1 := Lib.hid hz1; clear hr1 hb1 hz1)
      | (go_at_call 7; refine (pcheck c _).mono ?_; rw [HC.out]; rintro e w' ⟨rfl, rfl⟩)
      | (with_reducible refine load_row (o := ⟨some 15, _, _, _, _, _⟩) rfl _ _ rfl w.heap.size ?_ _ L (.array 7 3) R1.out Try.underlying31 rfl HS.out ?_; (focus go_simp))
      | (go_at_call 21; refine (HP.out _).mono ?_; rintro e w2 ⟨rfl, hb2⟩; have R2 := Lib.hid (R1.out.below hb2 R1.out.lt); have B2 := Lib.hid (B1.out.trans (hb2.mono B1.out.size)); clear hb2)
      | (go_at_call 18; refine (HU.out _).mono ?_; rintro e w3 ⟨a3, c3, rfl, hs3, hb3⟩; have R3 := Lib.hid (R2.out.below hb3 R2.out.lt); have B3 := Lib.hid (B2.out.trans (hb3.mono B2.out.size)); have S3 := Lib.hid hs3.2.2.2; clear hs3 hb3))
    go_loop [6, 7, 20] (fun h m i => ∃ (k : Nat) (X Y : Int), k ≤ n ∧ h = .int .i64 X ∧ m = .int .i64 Y ∧ i = .int .i64 k ∧ Hid (Hv c ms (fun x => decide (b ≤ x)) k X) ∧ Hid (Hv c ms (fun x => decide (b < x)) k Y)) (fun _ _ i => n - (intOf i).toNat)
    case atStart => exact ⟨0, 0, 0, Nat.zero_le _, rfl, rfl, rfl, Lib.hid (Hv.zero _ _ _), Lib.hid (Hv.zero _ _ _)⟩
    case round =>
      obtain ⟨k, X, Y, hk, rfl, rfl, rfl, HX, HY⟩ := hrel
      by_cases hlt : k < n
      · obtain ⟨bb, off, ha, -, hcell⟩ := S3.out.resolve_left (by omega)
        subst ha
        obtain ⟨j, hj7, hLj, hNj⟩ := HAT.out k hlt
        have hci := hcell k hlt
        rw [hLj] at hci
        obtain ⟨x, hx⟩ : ∃ x, ms.getD j 0 = x := ⟨_, rfl⟩
        have hmi : w3.cell? ⟨w.heap.size, j, none⟩ = some (.int .i64 x) := by
          have := R3.out
          rw [← HMS.out] at this
          rw [this.cell 0 j (by rw [HM7.out]; exact hj7), hx]
        have hsh : wrap64 (2 ^ j) = elV (j : Int) := by
          have : ∀ j : Fin 7, wrap64 (2 ^ j.val) = elV (j.val : Int) := by decide +kernel
          exact this ⟨j, hj7⟩
        have hsh2 : IntKind.i64.wrap (2 ^ j) = elV (j : Int) := by
          have : ∀ j : Fin 7, IntKind.i64.wrap (2 ^ j.val) = elV (j.val : Int) := by decide +kernel
          exact this ⟨j, hj7⟩
        have hj7i : (j : Int) ≤ 6 := by omega
        have X1 : Hid (b ≤ x → Hv c ms (fun x => decide (b ≤ x)) (k + 1) (bits .or .i64 X (elV (j : Int)))) := Lib.hid (fun h => HX.out.put hNj (by rw [hx]; exact decide_eq_true h))
        have X0 : Hid (¬ b ≤ x → Hv c ms (fun x => decide (b ≤ x)) (k + 1) X) := Lib.hid (fun h => HX.out.skip hNj (by rw [hx]; exact decide_eq_false h))
        have Y1 : Hid (b < x → Hv c ms (fun x => decide (b < x)) (k + 1) (bits .or .i64 Y (elV (j : Int)))) := Lib.hid (fun h => HY.out.put hNj (by rw [hx]; exact decide_eq_true h))
        have Y0 : Hid (¬ b < x → Hv c ms (fun x => decide (b < x)) (k + 1) Y) := Lib.hid (fun h => HY.out.skip hNj (by rw [hx]; exact decide_eq_false h))
        clear hcell hLj hNj hx
        rcases Int.lt_trichotomy b x with hbx | rfl | hbx
        · go_wp2
          go_round
          case rel => exact ⟨k + 1, _, _, by omega, rfl, rfl, by go_num, Lib.hid (X1.out (by omega)), Lib.hid (Y1.out hbx)⟩
          case measure => simp [intOf]; omega
        · go_wp2
          go_round
          case rel => exact ⟨k + 1, _, _, by omega, rfl, rfl, by go_num, Lib.hid (X1.out (by omega)), Lib.hid (Y0.out (by omega))⟩
          case measure => simp [intOf]; omega
        · go_wp2
          go_round
          case rel => exact ⟨k + 1, _, _, by omega, rfl, rfl, by go_num, Lib.hid (X0.out (by omega)), Lib.hid (Y0.out (by omega))⟩
          case measure => simp [intOf]; omega
      · obtain rfl : k = n := by omega
        have Q1 := Lib.hid (HQ1.out X HX.out)
        have Q2 := Lib.hid (HQ2.out Y HY.out)
        go_wp2_with (first
          | (go_at_call 13; with_reducible refine (pquorum c X _).mono ?_; rw [Q1.out]; rintro e w' ⟨rfl, rfl⟩)
          | (go_at_call 13; with_reducible refine (pquorum c Y _).mono ?_; rw [Q2.out]; rintro e w' ⟨rfl, rfl⟩)
          | (go_at_call 20; refine (awake12 _).mono ?_; rintro e wf ⟨rfl, hbf⟩; have BF := Lib.hid (B3.out.trans (hbf.mono B3.out.size)); clear hbf))
        go_ret
        exact ⟨rfl, BF.out⟩
  · have HC := Lib.hid hc
    clear hc hms hL
    go_enter Try.func5, Try.ntmps5
    go_wp2_with (first
      | (with_reducible refine box_row (o := ⟨some 3, _, _, _, _, _⟩) rfl _ _ rfl L rfl ?_; intro w1 hr1 hb1 hz1; have B1 := Lib.hid hb1; clear hr1 hb1 hz1)
      | (go_at_call 7; refine (pcheck c _).mono ?_; rw [HC.out]; rintro e w' ⟨rfl, rfl⟩)
      | (go_at_call 20; refine (awake12 _).mono ?_; rintro e wf ⟨rfl, hbf⟩; have BF := Lib.hid (B1.out.trans (hbf.mono B1.out.size)); clear hbf))
    go_ret
    exact ⟨rfl, BF.out⟩
end Go.Proofs.Ytcjcnoonfaipoaa.W
