/- LAYER 12 (peers): equality of lists of ints; the reference's Count, Quorum. -/
import Derived.Test.YtebpfjidfohjoaaPeM
set_option linter.unusedSimpArgs false
set_option linter.unusedVariables false
namespace Go.Proofs.Ytebpfjidfohjoaa.W
open Go Go.ChangeShapes Go.WideShapes Go.ChangeAt Go.RowKit
open Go.Proofs.Ytebpfjidfohjoaa.B (hasV elV bitsV mem mem_and mem_ref cntM cnt T bits_127 cntM_le lsN lsN_len lsN_lt mlN)

theorem take_snoc_eqI {l l' : List Int} {k : Nat} (h : k < l.length) (h' : k < l'.length) (ht : l.take k = l'.take k) (hx : l.getD k 0 = l'.getD k 0) : l.take (k + 1) = l'.take (k + 1) := by
  rw [List.take_succ_eq_append_getElem h, List.take_succ_eq_append_getElem h', ht]
  have h1 : l.getD k 0 = l[k] := by simp [h]
  have h2 : l'.getD k 0 = l'[k] := by simp [h']
  rw [← h1, ← h2, hx]
theorem mlI_len (c : Int) : (mlI c).length = cntM c := LI_len _ _
theorem mlI_wf (c : Int) : ∀ x ∈ mlI c, (Lit.int .i64 x).wf = true := LI_wf _ _ (Nat.le_refl _)
/-- List of the reference, as it reads -/
theorem ulist_sl (c : Int) (w : World) : Calls Try.prog 24 #[.int .i64 c] w fun e w' => ∃ a cap, e = .returned (.slice a (cntM c) cap) ∧ Sl .i64 w' a (cntM c) (mlI c) ∧ Below w.heap.size w w' := by
  refine (ulist c w).mono ?_
  rintro e w' ⟨v, rfl, ho, hb⟩
  obtain ⟨a, cap, rfl, -, -, hs⟩ := ho.form (mlI_wf c)
  rw [mlI_len] at hs ⊢
  exact ⟨a, cap, rfl, hs, hb⟩



/-- how many of the first i members are in yes -/
def cy (y : Int) (L : List Int) (i : Nat) : Nat := (L.take i).countP fun x => mem y x
theorem cy_succ (y : Int) (L : List Int) (i : Nat) (h : i < L.length) : cy y L (i + 1) = cy y L i + if mem y (L.getD i 0) = true then 1 else 0 := by
  unfold cy
  rw [List.take_succ_eq_append_getElem h, List.countP_append]
  have : L.getD i 0 = L[i] := by simp [h]
  rw [this]; by_cases hm : mem y L[i] = true <;> simp [hm]
theorem cy_le (y : Int) (L : List Int) (i : Nat) : cy y L i ≤ i := Nat.le_trans List.countP_le_length (by rw [List.length_take]; omega)
theorem quo_cy (c y : Int) : quoM c y = decide ((cntM c : Nat) < 2 * cy y (mlI c) (cntM c)) := by
  unfold quoM cy
  rw [List.take_of_length_le (by rw [mlI_len]; exact Nat.le_refl _)]
  unfold mlI LI
  rw [List.countP_map, B.countP_lsN]
  rfl

set_option maxRecDepth 100000 in
set_option maxHeartbeats 4000000 in
theorem uquorum (c y : Int) (w : World) : Calls Try.prog 20 #[.int .i64 c, .int .i64 y] w fun e w' => e = .returned (.bool (quoM c y)) ∧ Below w.heap.size w w' := by
  obtain ⟨n, hn⟩ : ∃ n, cntM c = n := ⟨_, rfl⟩
  obtain ⟨L, hL⟩ : ∃ L, mlI c = L := ⟨_, rfl⟩
  have HU := Lib.hid (ulist_sl c w)
  have HQ := Lib.hid (quo_cy c y)
  have HLN := Lib.hid (mlI_len c)
  rw [hn, hL] at HU HQ
  rw [hL, hn] at HLN
  have hn7 : n ≤ 7 := by rw [← hn]; exact cntM_le _
  clear hn hL
  go_enter Try.func20, Try.ntmps20
  go_wp2_with (go_at_call 24; refine (HU.out).mono ?_; rintro e w1 ⟨a1, c1, rfl, hs1, hb1⟩; have B1 := Lib.hid hb1; have S1 := Lib.hid hs1.2.2.2; clear hs1 hb1)
  go_loop [5, 7] (fun m i => ∃ k : Nat, k ≤ n ∧ i = .int .i64 k ∧ m = .int .i64 (cy y L k : Int)) (fun _ i => n - (intOf i).toNat)
  case atStart => exact ⟨0, Nat.zero_le _, rfl, rfl⟩
  case round =>
    obtain ⟨k, hk, rfl, rfl⟩ := hrel
    have hcy := cy_le y L k
    by_cases hlt : k < n
    · obtain ⟨b, off, ha, -, hc⟩ := S1.out.resolve_left (by omega)
      have hcs := cy_succ y L k (by rw [HLN.out]; exact hlt)
      have hck := hc k hlt
      obtain ⟨x, hx⟩ : ∃ x, L.getD k 0 = x := ⟨_, rfl⟩
      rw [hx] at hck hcs
      obtain ⟨r, hr⟩ : ∃ r, mem y x = r := ⟨_, rfl⟩
      rw [hr] at hcs
      have HR := Lib.hid hr
      have HCS := Lib.hid hcs
      clear hc hx hr hcs
      subst ha
      cases r
      · go_wp2_with (go_at_call 28; refine (uhas y x _).mono ?_; rw [HR.out]; rintro e w' ⟨rfl, rfl⟩)
        go_round
        case rel => exact ⟨k + 1, by omega, by go_num, by rw [HCS.out]; rfl⟩
        case measure => simp [intOf]; omega
      · go_wp2_with (go_at_call 28; refine (uhas y x _).mono ?_; rw [HR.out]; rintro e w' ⟨rfl, rfl⟩)
        go_round
        case rel => exact ⟨k + 1, by omega, by go_num, by rw [HCS.out]; go_num⟩
        case measure => simp [intOf]; omega
    · obtain rfl : k = n := by omega
      obtain ⟨m, hm⟩ : ∃ m, cy y L k = m := ⟨_, rfl⟩
      rw [hm] at HQ hcy ⊢
      clear hm
      go_wp2
      go_ret
      exact ⟨one (vbool (by rw [HQ.out, decide_eq_decide]; omega)), B1.out⟩
end Go.Proofs.Ytebpfjidfohjoaa.W
