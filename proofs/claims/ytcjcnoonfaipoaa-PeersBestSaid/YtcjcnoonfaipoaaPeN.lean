/- LAYER 12 (peers): equality of lists of ints; the reference's Count, Quorum. -/
import Derived.Test.YtcjcnoonfaipoaaPeM
set_option linter.unusedSimpArgs false
set_option linter.unusedVariables false
namespace Go.Proofs.Ytcjcnoonfaipoaa.W
open Go Go.ChangeShapes Go.WideShapes Go.ChangeAt Go.RowKit
open Go.Proofs.Ytcjcnoonfaipoaa.B (hasV elV bitsV mem mem_and mem_ref cntM cnt T bits_127 cntM_le lsN lsN_len lsN_lt mlN)

theorem take_snoc_eqI {l l' : List Int} {k : Nat} (h : k < l.length) (h' : k < l'.length) (ht : l.take k = l'.take k) (hx : l.getD k 0 = l'.getD k 0) : l.take (k + 1) = l'.take (k + 1) := by
  rw [List.take_succ_eq_append_getElem h, List.take_succ_eq_append_getElem h', ht]
  have h1 : l.getD k 0 = l[k] := by simp [h]
  have h2 : l'.getD k 0 = l'[k] := by simp [h']
  rw [← h1, ← h2, hx]
theorem mlI_len (c : Int) : (mlI c).length = cntM c := LI_len _ _
theorem mlI_wf (c : Int) : ∀ x ∈ mlI c, (Lit.int .i64 x).wf = true := LI_wf _ _ (Nat.le_refl _)
/-- List of the reference, as it reads -/
theorem ulist_sl (c : Int) (w : World) : Calls Try.prog 19 #[.int .i64 c] w fun e w' => ∃ a cap, e = .returned (.slice a (cntM c) cap) ∧ Sl .i64 w' a (cntM c) (mlI c) ∧ Below w.heap.size w w' := by
  refine (ulist c w).mono ?_
  rintro e w' ⟨v, rfl, ho, hb⟩
  obtain ⟨a, cap, rfl, -, -, hs⟩ := ho.form (mlI_wf c)
  rw [mlI_len] at hs ⊢
  exact ⟨a, cap, rfl, hs, hb⟩

set_option maxRecDepth 100000 in
set_option maxHeartbeats 1000000 in
theorem iequal (a a' : Option Addr) (n n' c c' : Nat) (l l' : List Int) (w : World) (hr : Sl .i64 w a n l) (hr' : Sl .i64 w a' n' l') (hm : n ≤ 1000000) (hm' : n' ≤ 1000000) :
    Calls Try.prog 17 #[.slice a n c, .slice a' n' c'] w fun e w' => e = .returned (.bool (decide (l = l'))) ∧ Below w.heap.size w w' := by
  obtain ⟨hl, -, -, h4⟩ := hr
  obtain ⟨hl', -, -, h4'⟩ := hr'
  by_cases hn : n = n'
  · subst hn
    have HL := Lib.hid hl
    have HL' := Lib.hid hl'
    by_cases h0 : n = 0
    · have e : l = l' := by rw [List.eq_nil_of_length_eq_zero (l := l) (by omega), List.eq_nil_of_length_eq_zero (l := l') (by omega)]
      subst h0
      clear hl hl' h4 h4' hm hm'
      go_enter Try.func17, Try.ntmps17
      go_wp2_with fail
      go_loopw [13] (fun i wr => i = .int .i64 0 ∧ w = wr) (fun _ _ => 0)
      case atStart => exact ⟨rfl, rfl⟩
      case round =>
        obtain ⟨rfl, rfl⟩ := hrel
        go_wp2_with fail
        go_ret
        exact ⟨one (vbool (by simp [e])), Below.refl _ _⟩
    · obtain ⟨b, off, rfl, hlt, hc⟩ := h4.resolve_left h0
      obtain ⟨b', off', rfl, hlt', hc'⟩ := h4'.resolve_left h0
      have HC := Lib.hid hc
      have HC' := Lib.hid hc'
      clear hl hl' h4 h4' hc hc'
      go_enter Try.func17, Try.ntmps17
      go_wp2_with fail
      go_loopw [13] (fun i wr => ∃ k q : Nat, i = .int .i64 k ∧ k ≤ n ∧ Hid (l.take k = l'.take k) ∧ wr = w.drewN q) (fun i _ => n - (intOf i).toNat)
      case atStart => exact ⟨0, 0, rfl, Nat.zero_le _, Lib.hid rfl, rfl⟩
      case round =>
        obtain ⟨k, q, rfl, hk, HT, rfl⟩ := hrel
        by_cases hkn : k < n
        · have c1 : w.cell? ⟨b, off + k, none⟩ = some (.int .i64 (l.getD k 0)) := HC.out k hkn
          have c2 : w.cell? ⟨b', off' + k, none⟩ = some (.int .i64 (l'.getD k 0)) := HC'.out k hkn
          have hkl : k < l.length := by rw [HL.out]; exact hkn
          have hkl' : k < l'.length := by rw [HL'.out]; exact hkn
          by_cases hx : l.getD k 0 = l'.getD k 0
          · have HT2 := Lib.hid (take_snoc_eqI hkl hkl' HT.out hx)
            rw [← hx] at c2
            clear hkl hkl' hx
            generalize l.getD k 0 = x at *
            go_wp2_with fail
            go_quiet (fail)
            go_wp2_with fail
            go_roundw
            case rel => exact ⟨k + 1, q + nq, by go_num, by omega, HT2, by first | rfl | rw [World.drewN_drewN]⟩
            case measure => simp [intOf]; omega
          · have e : l ≠ l' := by rintro rfl; exact hx rfl
            have hd : ((l.getD k 0) != (l'.getD k 0)) = true := by
              rw [bne_iff_ne]; exact hx
            have E := Lib.hid e
            clear hkl hkl' hx e
            generalize l.getD k 0 = x at *
            generalize l'.getD k 0 = y at *
            go_wp2_with fail
            go_quiet (fail)
            go_wp2_with fail
            go_ret
            exact ⟨one (vbool (by have := E.out; simp [this])), by first | exact below_drewN (Below.refl _ _) _ | (rw [World.drewN_drewN]; exact below_drewN (Below.refl _ _) _)⟩
        · obtain rfl : k = n := by omega
          have e : l = l' := by
            have := HT.out
            rwa [List.take_of_length_le (by rw [HL.out]; omega), List.take_of_length_le (by rw [HL'.out]; omega)] at this
          have E := Lib.hid e
          clear e
          go_wp2_with fail
          go_ret
          exact ⟨one (vbool (by have := E.out; simp [this])), by first | exact below_drewN (Below.refl _ _) _ | (rw [World.drewN_drewN]; exact below_drewN (Below.refl _ _) _)⟩
  · have e : l ≠ l' := by rintro rfl; omega
    have hne : ((n : Int) == (n' : Int)) = false := by simp; omega
    clear h4 h4'
    go_enter Try.func17, Try.ntmps17
    go_wp2_with fail
    go_ret
    exact ⟨one (vbool (by simp [e])), Below.refl _ _⟩

set_option maxRecDepth 100000 in
set_option maxHeartbeats 4000000 in
theorem ucount (c : Int) (w : World) : Calls Try.prog 12 #[.int .i64 c] w fun e w' => e = .returned (.int .i64 (cntM c : Int)) ∧ Below w.heap.size w w' := by
  obtain ⟨n, hn⟩ : ∃ n, cntM c = n := ⟨_, rfl⟩
  have HU := Lib.hid (ulist_sl c w)
  rw [hn] at HU ⊢
  have hn7 : n ≤ 7 := by rw [← hn]; exact cntM_le _
  clear hn
  go_enter Try.func12, Try.ntmps12
  go_wp2_with (go_at_call 19; refine (HU.out).mono ?_; rintro e w1 ⟨a1, c1, rfl, hs1, hb1⟩; have B1 := Lib.hid hb1; clear hs1 hb1)
  go_ret
  exact ⟨rfl, B1.out⟩

/-- how many of the first i members are in yes -/
def cy (y : Int) (L : List Int) (i : Nat) : Nat := (L.take i).countP fun x => mem y x
theorem cy_succ (y : Int) (L : List Int) (i : Nat) (h : i < L.length) : cy y L (i + 1) = cy y L i + if mem y (L.getD i 0) = true then 1 else 0 := by
  unfold cy
  rw [List.take_succ_eq_append_getElem h, List.countP_append]
  have : L.getD i 0 = L[i] := by simp [h]
  rw [this]; by_cases hm : mem y L[i] = true <;> simp [hm]
theorem cy_le (y : Int) (L : List Int) (i : Nat) : cy y L i ≤ i := Nat.le_trans List.countP_le_length (by rw [List.length_take]; omega)
theorem quo_cy (c y : Int) : quoM c y = decide ((cntM c : Nat) < 2 * cy y (mlI c) (cntM c)) := by
  unfold quoM cy
  rw [List.take_of_length_le (by rw [mlI_len]; exact Nat.le_refl _)]
  unfold mlI LI
  rw [List.countP_map, B.countP_lsN]
  rfl

set_option maxRecDepth 100000 in
set_option maxHeartbeats 4000000 in
theorem uquorum (c y : Int) (w : World) : Calls Try.prog 14 #[.int .i64 c, .int .i64 y] w fun e w' => e = .returned (.bool (quoM c y)) ∧ Below w.heap.size w w' := by
  obtain ⟨n, hn⟩ : ∃ n, cntM c = n := ⟨_, rfl⟩
  obtain ⟨L, hL⟩ : ∃ L, mlI c = L := ⟨_, rfl⟩
  have HU := Lib.hid (ulist_sl c w)
  have HQ := Lib.hid (quo_cy c y)
  have HLN := Lib.hid (mlI_len c)
  rw [hn, hL] at HU HQ
  rw [hL, hn] at HLN
  have hn7 : n ≤ 7 := by rw [← hn]; exact cntM_le _
  clear hn hL
  go_enter Try.func14, Try.ntmps14
  go_wp2_with (go_at_call 19; refine (HU.out).mono ?_; rintro e w1 ⟨a1, c1, rfl, hs1, hb1⟩; have B1 := Lib.hid hb1; have S1 := Lib.hid hs1.2.2.2; clear hs1 hb1)
  go_loop [5, 7] (fun m i => ∃ k : Nat, k ≤ n ∧ i = .int .i64 k ∧ m = .int .i64 (cy y L k : Int)) (fun _ i => n - (intOf i).toNat)
  case atStart => exact ⟨0, Nat.zero_le _, rfl, rfl⟩
  case round =>
    obtain ⟨k, hk, rfl, rfl⟩ := hrel
    have hcy := cy_le y L k
    by_cases hlt : k < n
    · obtain ⟨b, off, ha, -, hc⟩ := S1.out.resolve_left (by omega)
      have hcs := cy_succ y L k (by rw [HLN.out]; exact hlt)
      have hck := hc k hlt
      obtain ⟨x, hx⟩ : ∃ x, L.getD k 0 = x := ⟨_, rfl⟩
      rw [hx] at hck hcs
      obtain ⟨r, hr⟩ : ∃ r, mem y x = r := ⟨_, rfl⟩
      rw [hr] at hcs
      have HR := Lib.hid hr
      have HCS := Lib.hid hcs
      clear hc hx hr hcs
      subst ha
      cases r
      · go_wp2_with (go_at_call 10; refine (uhas y x _).mono ?_; rw [HR.out]; rintro e w' ⟨rfl, rfl⟩)
        go_round
        case rel => exact ⟨k + 1, by omega, by go_num, by rw [HCS.out]; rfl⟩
        case measure => simp [intOf]; omega
      · go_wp2_with (go_at_call 10; refine (uhas y x _).mono ?_; rw [HR.out]; rintro e w' ⟨rfl, rfl⟩)
        go_round
        case rel => exact ⟨k + 1, by omega, by go_num, by rw [HCS.out]; go_num⟩
        case measure => simp [intOf]; omega
    · obtain rfl : k = n := by omega
      obtain ⟨m, hm⟩ : ∃ m, cy y L k = m := ⟨_, rfl⟩
      rw [hm] at HQ hcy ⊢
      clear hm
      go_wp2
      go_ret
      exact ⟨one (vbool (by rw [HQ.out, decide_eq_decide]; omega)), B1.out⟩
end Go.Proofs.Ytcjcnoonfaipoaa.W
