/- LAYER 12 (peers): the reference's Match. -/
import Derived.Test.YtebpfjidfohjoaaPeN
set_option linter.unusedSimpArgs false
set_option linter.unusedVariables false
namespace Go.Proofs.Ytebpfjidfohjoaa.W
open Go Go.ChangeShapes Go.WideShapes Go.ChangeAt Go.RowKit
open Go.Proofs.Ytebpfjidfohjoaa.B (hasV elV bitsV mem mem_and mem_ref cntM cnt T bits_127 cntM_le lsN lsN_len lsN_lt mlN nGe nGt Best)

/-- the members' numbers -/
def vals (c : Int) (ms : List Int) : List Int := (mlN c).map fun j => ms.getD j 0
theorem vals_len (c : Int) (ms : List Int) : (vals c ms).length = cntM c := by unfold vals; rw [List.length_map, B.mlN_len]
theorem vals_at (c : Int) (ms : List Int) (i : Nat) (h : i < cntM c) : ∃ j : Nat, j < 7 ∧ (mlI c).getD i 0 = (j : Int) ∧ ms.getD j 0 = (vals c ms).getD i 0 := by
  have hi : i < (mlN c).length := by rw [B.mlN_len]; exact h
  refine ⟨(mlN c)[i], (lsN_lt _ 7 _ (List.getElem_mem hi)).1, ?_, ?_⟩
  · show ((mlN c).map Int.ofNat).getD i 0 = _
    simp [hi]
  · unfold vals
    simp [hi]
/-- how many of the first k are at least x -/
def gk (V : List Int) (x : Int) (k : Nat) : Nat := nGe (V.take k) x
theorem gk_succ (V : List Int) (x : Int) (k : Nat) (h : k < V.length) : gk V x (k + 1) = gk V x k + if x ≤ V.getD k 0 then 1 else 0 := by
  unfold gk nGe
  rw [List.take_succ_eq_append_getElem h, List.countP_append]
  have : V.getD k 0 = V[k] := by simp [h]
  rw [this]; by_cases hm : x ≤ V[k] <;> simp [hm]
theorem gk_le (V : List Int) (x : Int) (k : Nat) : gk V x k ≤ k := Nat.le_trans List.countP_le_length (by rw [List.length_take]; omega)
theorem gk_all (V : List Int) (x : Int) (k : Nat) (h : V.length ≤ k) : gk V x k = nGe V x := by unfold gk; rw [List.take_of_length_le h]
/-- the best of the first i of those that more than half have -/
structure Bs (V : List Int) (i : Nat) (best : Int) (sm : Bool) : Prop where
  no : sm = false → best = 0 ∧ ∀ j, j < i → ¬ V.length < 2 * nGe V (V.getD j 0)
  yes : sm = true → ∃ j, j < i ∧ V.getD j 0 = best ∧ V.length < 2 * nGe V best ∧ ∀ j, j < i → V.length < 2 * nGe V (V.getD j 0) → V.getD j 0 ≤ best
theorem Bs.skip {V : List Int} {i : Nat} {best : Int} {sm : Bool} (h : Bs V i best sm) (hn : ¬ V.length < 2 * nGe V (V.getD i 0)) : Bs V (i + 1) best sm := by
  refine ⟨fun e => ⟨(h.no e).1, fun j hj => ?_⟩, fun e => ?_⟩
  · rcases Nat.lt_succ_iff_lt_or_eq.1 hj with hj | rfl
    · exact (h.no e).2 j hj
    · exact hn
  · obtain ⟨j, h1, h2, h3, h4⟩ := h.yes e
    refine ⟨j, by omega, h2, h3, fun k hk hp => ?_⟩
    rcases Nat.lt_succ_iff_lt_or_eq.1 hk with hk | rfl
    · exact h4 k hk hp
    · exact absurd hp hn
theorem Bs.low {V : List Int} {i : Nat} {best : Int} (h : Bs V i best true) (hn : V.getD i 0 ≤ best) : Bs V (i + 1) best true := by
  refine ⟨fun e => (by cases e), fun e => ?_⟩
  obtain ⟨j, h1, h2, h3, h4⟩ := h.yes e
  refine ⟨j, by omega, h2, h3, fun k hk hp => ?_⟩
  rcases Nat.lt_succ_iff_lt_or_eq.1 hk with hk | rfl
  · exact h4 k hk hp
  · exact hn
theorem Bs.set {V : List Int} {i : Nat} {best : Int} {sm : Bool} (h : Bs V i best sm) (hp : V.length < 2 * nGe V (V.getD i 0)) (hn : sm = true → best < V.getD i 0) : Bs V (i + 1) (V.getD i 0) true := by
  refine ⟨fun e => (by cases e), fun _ => ⟨i, by omega, rfl, hp, fun k hk hq => ?_⟩⟩
  rcases Nat.lt_succ_iff_lt_or_eq.1 hk with hk | rfl
  · cases hsm : sm
    · exact absurd hq ((h.no hsm).2 k hk)
    · obtain ⟨j, -, -, -, h4⟩ := h.yes hsm
      have := h4 k hk hq
      have := hn hsm
      omega
  · exact Int.le_refl _
theorem Bs.best {V : List Int} {best : Int} {sm : Bool} (h : Bs V V.length best sm) : Best V best := by
  cases hsm : sm
  · obtain ⟨rfl, h2⟩ := h.no hsm
    by_cases h0 : V = []
    · exact .inl ⟨h0, rfl⟩
    · obtain ⟨b, hb, hp⟩ := B.best_some h0
      obtain ⟨j, hj, rfl⟩ := List.getElem_of_mem hb
      exact absurd (by simpa [hj] using hp) (h2 j hj)
  · obtain ⟨j, hj, h2, h3, h4⟩ := h.yes hsm
    refine B.best_of (by rw [← h2]; simp [hj]) h3 fun x hx hp => ?_
    obtain ⟨k, hk, rfl⟩ := List.getElem_of_mem hx
    have := h4 k hk (by simpa [hk] using hp)
    simpa [hk] using this

set_option maxRecDepth 100000 in
set_option maxHeartbeats 4000000 in
theorem umatch (c : Int) (ms : List Int) (hms : ms.length = 7) (w : World) :
    Calls Try.prog 16 #[.int .i64 c, .agg (ms.map (Value.int .i64)).toArray] w fun e w' => ∃ b, e = .returned (.int .i64 b) ∧ Best (vals c ms) b ∧ Below w.heap.size w w' := by
  obtain ⟨n, hn⟩ : ∃ n, cntM c = n := ⟨_, rfl⟩
  obtain ⟨L, hL⟩ : ∃ L, mlI c = L := ⟨_, rfl⟩
  obtain ⟨V, hV⟩ : ∃ V, vals c ms = V := ⟨_, rfl⟩
  have HU := Lib.hid (fun w => ulist_sl c w)
  have HVL := Lib.hid (vals_len c ms)
  have HAT := Lib.hid (vals_at c ms)
  rw [hn, hL, hV] at HAT
  rw [hn, hL] at HU
  rw [hV, hn] at HVL
  rw [hV]
  have HM := Lib.hid hms
  have hn7 : n ≤ 7 := by rw [← hn]; exact cntM_le _
  clear hn hL hV hms
  go_enter Try.func16, Try.ntmps16
  go_wp2_with (first
    | (with_reducible refine box_row (o := ⟨some 3, _, _, _, _, _⟩) rfl _ _ rfl (ms.map (Value.int .i64)) rfl ?_; intro w1 hr1 hb1 hz1; have R1 := Lib.hid hr1; have B1 := Lib.hid hb1; have Z1 := Lib.hid hz1; clear hr1 hb1 hz1)
    | (go_at_call 24; refine (HU.out w1).mono ?_; rintro e w2 ⟨a2, c2, rfl, hs2, hb2⟩; have R2 := Lib.hid (R1.out.below hb2 (by have := Z1.out; omega)); have B2 := Lib.hid (B1.out.trans (hb2.mono B1.out.size)); have S2 := Lib.hid hs2.2.2.2; clear hs2 hb2))
  go_loopw [6, 7, 8] (fun b s i wr => ∃ (k q : Nat) (best : Int) (sm : Bool), k ≤ n ∧ b = .int .i64 best ∧ s = .bool sm ∧ i = .int .i64 k ∧ Hid (Bs V k best sm) ∧ wr = w2.drewN q) (fun _ _ i _ => n - (intOf i).toNat)
  case atStart => exact ⟨0, 0, 0, false, Nat.zero_le _, rfl, rfl, rfl, Lib.hid ⟨fun _ => ⟨rfl, fun j hj => absurd hj (Nat.not_lt_zero j)⟩, fun e => by cases e⟩, rfl⟩
  case round =>
    obtain ⟨i, q, best, sm, hi, rfl, rfl, rfl, HBS, rfl⟩ := hrel
    by_cases hlt : i < n
    · obtain ⟨b, off, ha, -, hc⟩ := S2.out.resolve_left (by omega)
      subst ha
      obtain ⟨ji, hji, hLi, hVi⟩ := HAT.out i hlt
      have hci := hc i hlt
      rw [hLi] at hci
      obtain ⟨x, hx⟩ : ∃ x, V.getD i 0 = x := ⟨_, rfl⟩
      rw [hx] at hVi
      have hmi : w2.cell? ⟨w.heap.size, ji, none⟩ = some (.int .i64 x) := by rw [R2.out.cell 0 ji (by rw [HM.out]; exact hji), hVi]
      have HX := Lib.hid hx
      have HC := Lib.hid hc
      clear hc hLi hVi hx
      go_wp2
      go_loopw [9, 10] (fun m k wr => ∃ (kk q2 : Nat), kk ≤ n ∧ k = .int .i64 kk ∧ m = .int .i64 (gk V x kk : Int) ∧ wr = w2.drewN q2) (fun _ k _ => n - (intOf k).toNat)
      case atStart => exact ⟨0, q, Nat.zero_le _, rfl, rfl, rfl⟩
      case round =>
        obtain ⟨k, q2, hk, rfl, rfl, rfl⟩ := hrel
        have hgk := gk_le V x k
        by_cases hkn : k < n
        · obtain ⟨jk, hjk, hLk, hVk⟩ := HAT.out k hkn
          have hck := HC.out k hkn
          rw [hLk] at hck
          obtain ⟨y, hy⟩ : ∃ y, V.getD k 0 = y := ⟨_, rfl⟩
          rw [hy] at hVk
          have hmk : w2.cell? ⟨w.heap.size, jk, none⟩ = some (.int .i64 y) := by rw [R2.out.cell 0 jk (by rw [HM.out]; exact hjk), hVk]
          have hgs := gk_succ V x k (by rw [HVL.out]; exact hkn)
          rw [hy] at hgs
          clear hLk hVk hy
          by_cases hxy : x ≤ y
          · rw [if_pos hxy] at hgs
            have HGS := Lib.hid hgs
            clear hgs
            go_wp2_with fail
            go_quiet (fail)
            go_wp2_with fail
            go_roundw
            case rel => exact ⟨k + 1, q2 + nq, by omega, by go_num, by rw [HGS.out]; go_num, by first | rfl | rw [World.drewN_drewN]⟩
            case measure => simp [intOf]; omega
          · rw [if_neg hxy] at hgs
            have HGS := Lib.hid hgs
            clear hgs
            go_wp2_with fail
            go_quiet (fail)
            go_wp2_with fail
            go_roundw
            case rel => exact ⟨k + 1, q2 + nq, by omega, by go_num, by rw [HGS.out]; rfl, by first | rfl | rw [World.drewN_drewN]⟩
            case measure => simp [intOf]; omega
        · obtain rfl : k = n := by omega
          have hga := gk_all V x k (by rw [HVL.out]; exact Nat.le_refl _)
          obtain ⟨m, hm⟩ : ∃ m, gk V x k = m := ⟨_, rfl⟩
          rw [hm] at hga hgk ⊢
          rw [← HX.out] at hga
          have HGA := Lib.hid hga
          clear hm hga
          by_cases hp : k < 2 * m
          · have HP := Lib.hid (show V.length < 2 * nGe V (V.getD i 0) by rw [← HGA.out, HVL.out]; exact hp)
            cases sm
            · have HN := Lib.hid (HBS.out.set HP.out (fun e => by cases e))
              rw [HX.out] at HN
              go_wp2_with fail
              go_roundw
              case rel => exact ⟨i + 1, q2, _, _, by omega, rfl, rfl, by go_num, HN, rfl⟩
              case measure => simp [intOf]; omega
            · by_cases hbx : best < x
              · have HN := Lib.hid (HBS.out.set HP.out (fun e => by rw [HX.out]; exact hbx))
                rw [HX.out] at HN
                go_wp2_with fail
                go_roundw
                case rel => exact ⟨i + 1, q2, _, _, by omega, rfl, rfl, by go_num, HN, rfl⟩
                case measure => simp [intOf]; omega
              · have HN := Lib.hid (HBS.out.low (by rw [HX.out]; omega))
                go_wp2_with fail
                go_roundw
                case rel => exact ⟨i + 1, q2, _, _, by omega, rfl, rfl, by go_num, HN, rfl⟩
                case measure => simp [intOf]; omega
          · have HN := Lib.hid (HBS.out.skip (show ¬ V.length < 2 * nGe V (V.getD i 0) by rw [← HGA.out, HVL.out]; exact hp))
            go_wp2_with fail
            go_roundw
            case rel => exact ⟨i + 1, q2, _, _, by omega, rfl, rfl, by go_num, HN, rfl⟩
            case measure => simp [intOf]; omega
    · obtain rfl : i = n := by omega
      have HB := HBS.out
      rw [← HVL.out] at HB
      have HE := Lib.hid HB.best
      clear HB
      go_wp2_with fail
      go_ret
      exact ⟨best, rfl, HE.out, below_drewN B2.out _⟩
end Go.Proofs.Ytebpfjidfohjoaa.W
