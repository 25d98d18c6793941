/- LAYER 12 (peers): the laws PeersMatch, PeersMeet, PeersBest. -/
import Derived.Test.YtcjcnoonfaipoaaPeL
set_option linter.unusedSimpArgs false
set_option linter.unusedVariables false
namespace Go.Proofs.Ytcjcnoonfaipoaa.W
open Go Go.ChangeShapes Go.WideShapes Go.ChangeAt Go.RowKit
open Go.Proofs.Ytcjcnoonfaipoaa.B (hasV elV bitsV mem mem_and mem_ref cntM cnt T bits_127 cntM_le lsN lsN_len lsN_lt mlN nGe nGt Best)

/-- a whole array is read -/
theorem load_agg {P : Program} {o : Oper} {a : Act} {w : World} (ty : TypeId) (x : Operand) (ho : o.op = .load ty x) (g : Nat) (hx : a.eval x = .pointer (some ⟨g, 0, none⟩)) (t : TypeId) (L : List Value) (d : TypeDesc) (hr : Row w g t L)
    (hu : P.underlying ty = some d) (hd : (match d with | .struct _ | .array _ _ => true | _ => false) = true) (hi : (P.info? ty).map (·.size) = some L.length) : (execOp a.eval o).run P w = .ok (.value (.agg L.toArray)) w := by
  have hl : (loadCells ⟨g, 0, none⟩ L.length).run P w = .ok L.toArray w := run_loadCells_list (P := P) w ⟨g, 0, none⟩ L (fun j v hv => by rw [Go.WideShapes.add_plain, Nat.zero_add, hr.cellV]; exact hv)
  have hagg : (isAgg ty).run P w = .ok true w := by
    unfold isAgg
    rw [Sem.run_bind, run_underlying hu w]
    cases d <;> simp_all
  unfold execOp
  cases hq : P.info? ty with
  | none => simp [hq] at hi
  | some i =>
    have hs : i.size = L.length := by simpa [hq] using hi
    simp [ho, hx, Instr.loadAt, Instr.sureAddr, loadVar, Sem.run_bind, hagg, sizeOf, typeInfo, hq, hs, hl, Result.andThen]
/-- an array of seven ints that came in -/
theorem seven_open {H : Type} {enc : TypeId × Value → H} {w : World} {base : Nat} {sp : Nat → Bool} {held : Bool} {v : Value} {d : DataW H} {p : List MemPlace} {X : Prop} (_ : X) (h : DataW.Trod enc Try.prog w base sp held 31 v d p) :
    ∃ ms : List Int, v = .agg (ms.map (Value.int .i64)).toArray ∧ ms.length = 7 := by
  obtain ⟨zs, h1, h2, -⟩ := open_ints_arr Try.underlying31 Try.underlying3 (by kernel_rfl) (by kernel_rfl) (by decide) h
  exact ⟨zs, h1, h2⟩
theorem sevenSize (ms : List Int) (h : ms.length = 7) : (Try.prog.info? 31).map (·.size) = some (ms.map (Value.int .i64)).length := by rw [List.length_map, h]; kernel_rfl

set_option maxRecDepth 100000 in
set_option maxHeartbeats 4000000 in
theorem law_PeersMatch (c : Int) (ms : List Int) (w : World) (w0 : (Lit.int .i64 c).wf = true) (hms : ms.length = 7) :
    Calls Try.prog 4 #[.int .i64 c, .agg (ms.map (Value.int .i64)).toArray] w fun e w' => e = .returned (.bool true) ∧ Below w.heap.size w w' := by
  clear w0
  obtain ⟨b, hb⟩ : ∃ b, bestV (vals c ms) = b := ⟨_, rfl⟩
  have HP := Lib.hid (fun w => pmatch_v c ms hms w)
  have HU := Lib.hid (fun w => umatch_v c ms hms w)
  rw [hb] at HP HU
  obtain ⟨L, hL⟩ : ∃ L, ms.map (Value.int .i64) = L := ⟨_, rfl⟩
  have HS := Lib.hid (sevenSize ms hms)
  rw [hL] at HP HU HS ⊢
  clear hb hms hL
  go_enter Try.func4, Try.ntmps4
  go_wp2_with (with_reducible refine box_row (o := ⟨some 3, _, _, _, _, _⟩) rfl _ _ rfl L rfl ?_; intro w1 hr1 hb1 hz1; have HR1 := Lib.hid hr1; have HB1 := Lib.hid hb1; clear hr1 hb1 hz1)
  refine region_w (C := fun v => Below w1.heap.size w1 v) (by kernel_rfl) (by kernel_rfl) (Below.refl _ _).drew ?_
  repeat (first
    | (refine w_read (wanted_free rfl) (.agg L.toArray) (fun v hv => load_agg _ _ rfl w.heap.size (by go_simp) _ L (.array 7 3) (HR1.out.below hv HR1.out.lt) Try.underlying31 rfl HS.out) ?_; go_simp)
    | (refine w_read (wanted_free rfl) ?_ ?_ ?_; rotate_left; (focus (intro v hv; go_simp; rfl)); go_simp)
    | (refine w_read ?_ ?_ ?_ ?_; (focus (go_simp; done)); rotate_left; (focus (intro v hv; go_simp; rfl)); go_simp)
    | (refine w_call ?_ 21 ?_ ?_ ?_ ?_ ?_; (focus (go_simp; done)); rotate_left; (focus (intro v; go_simp; rfl)); rotate_left; (focus (intro v hv; exact q_grow (HP.out v) (by rfl) hv)); go_simp)
    | (refine w_call ?_ 22 ?_ ?_ ?_ ?_ ?_; (focus (go_simp; done)); rotate_left; (focus (intro v; go_simp; rfl)); rotate_left; (focus (intro v hv; exact q_grow (HU.out v) (by rfl) hv)); go_simp)
    | (refine w_call ?_ 20 ?_ ?_ ?_ ?_ ?_; (focus (go_simp; done)); rotate_left; (focus (intro v; go_simp; rfl)); rotate_left; (focus (intro v hv; exact q_grow (awake12 v) (by rfl) hv)); go_simp))
  refine w_nil ?_
  intro w3 hb3
  go_wp2_with fail
  go_ret
  exact ⟨rfl, HB1.out.trans (hb3.mono HB1.out.size)⟩

set_option maxRecDepth 100000 in
set_option maxHeartbeats 4000000 in
theorem law_PeersMeet (o c a b : Int) (w : World) (w0 : (Lit.int .i64 o).wf = true) (w1 : (Lit.int .i64 c).wf = true) (w2 : (Lit.int .i64 a).wf = true) (w3 : (Lit.int .i64 b).wf = true) :
    Calls Try.prog 6 #[.int .i64 o, .int .i64 c, .int .i64 a, .int .i64 b] w fun e w' => e = .returned (.bool true) ∧ Below w.heap.size w w' := by
  clear w0 w1 w2 w3
  -- the loop, reached only where two quorums meet
  have hmeet : (c = o ∨ chgM o c = 0) → quoM o a = true → quoM c b = true → ¬ ∀ k : Nat, k < 7 → (mem a (k : Int) && mem b (k : Int)) = false := by
    intro hx h1 h2
    refine B.meet (fun k => mem o (k : Int)) (fun k => mem c (k : Int)) (fun k => mem a (k : Int)) (fun k => mem b (k : Int)) 7 ?_ (of_decide_eq_true h1) (of_decide_eq_true h2)
    rcases hx with rfl | hx
    · rw [B.cnt_pos _ 7 (fun k _ => by simp)]; omega
    · unfold chgM at hx
      split at hx
      · rename_i h; exact Nat.le_of_eq h.2.2
      · cases hx
  have HME := Lib.hid hmeet
  clear hmeet
  obtain ⟨G, hg⟩ : ∃ G, chgM o c = G := ⟨_, rfl⟩
  obtain ⟨K, hk⟩ : ∃ K, chkM o = K := ⟨_, rfl⟩
  obtain ⟨q1, hq1⟩ : ∃ q, quoM o a = q := ⟨_, rfl⟩
  obtain ⟨q2, hq2⟩ : ∃ q, quoM c b = q := ⟨_, rfl⟩
  have hG : G = 0 ∨ G = 19 := by rw [← hg]; unfold chgM; split <;> simp
  have hK : K = 0 ∨ K = 1 := by rw [← hk]; exact chk01 o
  rw [hg, hq1, hq2] at HME
  have HG := Lib.hid hg
  have HK := Lib.hid hk
  have HQ1 := Lib.hid hq1
  have HQ2 := Lib.hid hq2
  clear hg hk hq1 hq2
  have tail : ∀ (d : Bool) (w : World), (c != o) = d → (d && G != 0 || K != 0 || !q1 || !q2) = false → Calls Try.prog 6 #[.int .i64 o, .int .i64 c, .int .i64 a, .int .i64 b] w fun e w' => e = .returned (.bool true) ∧ Below w.heap.size w w' := by
    intro d w hd hcond
    simp only [Bool.or_eq_false_iff, Bool.and_eq_false_iff, bne_eq_false_iff_eq, Bool.not_eq_false'] at hcond
    obtain ⟨⟨⟨h1, h2⟩, h3⟩, h4⟩ := hcond
    subst h2 h3 h4
    have HM2 := Lib.hid (HME.out (by rcases h1 with h1 | h1
                                     · left; rw [h1] at hd; simpa using hd
                                     · exact .inr h1) rfl rfl)
    have hd2 : d = false ∨ (d = true ∧ G = 0) := by rcases h1 with h1 | h1; exact .inl h1; cases d; exact .inl rfl; exact .inr ⟨rfl, h1⟩
    clear HME hG hK h1
    rcases hd2 with rfl | ⟨rfl, rfl⟩
    all_goals
      go_enter Try.func6, Try.ntmps6
      go_wp2_with (first
        | (go_at_call 23; refine (pchange o c _).mono ?_; rw [HG.out]; rintro e w' ⟨rfl, rfl⟩)
        | (go_at_call 24; refine (uchange o c _).mono ?_; rw [HG.out]; rintro e w' ⟨rfl, rfl⟩)
        | (go_at_call 7; refine (pcheck o _).mono ?_; rw [HK.out]; rintro e w' ⟨rfl, rfl⟩)
        | (go_at_call 13; with_reducible refine (pquorum o a _).mono ?_; rw [HQ1.out]; rintro e w' ⟨rfl, rfl⟩)
        | (go_at_call 13; with_reducible refine (pquorum c b _).mono ?_; rw [HQ2.out]; rintro e w' ⟨rfl, rfl⟩))
      go_loop [44] (fun i => ∃ k : Nat, k ≤ 7 ∧ i = .int .i64 k ∧ Hid (∀ j : Nat, j < k → (mem a (j : Int) && mem b (j : Int)) = false)) (fun i => 7 - (intOf i).toNat)
      case atStart => exact ⟨0, Nat.zero_le _, rfl, Lib.hid (fun j hj => absurd hj (Nat.not_lt_zero j))⟩
      case round =>
        obtain ⟨k, hk, rfl, HI⟩ := hrel
        by_cases hlt : k < 7
        · obtain ⟨A1, hA1⟩ : ∃ A1, mem a (k : Int) = A1 := ⟨_, rfl⟩
          obtain ⟨B1, hB1⟩ : ∃ B1, mem b (k : Int) = B1 := ⟨_, rfl⟩
          have HI2 : Hid ((A1 && B1) = false → ∀ j : Nat, j < k + 1 → (mem a (j : Int) && mem b (j : Int)) = false) := Lib.hid (fun h j hj => by
            rcases Nat.lt_succ_iff_lt_or_eq.1 hj with hj | rfl
            · exact HI.out j hj
            · rw [hA1, hB1]; exact h)
          have HA := Lib.hid hA1
          have HB := Lib.hid hB1
          clear hA1 hB1
          cases A1 <;> cases B1
          all_goals
            go_wp2_with (first
              | (go_at_call 9; with_reducible refine (phas a (k : Int) _).mono ?_; rw [HA.out]; rintro e w' ⟨rfl, rfl⟩)
              | (go_at_call 9; with_reducible refine (phas b (k : Int) _).mono ?_; rw [HB.out]; rintro e w' ⟨rfl, rfl⟩)
              | (go_at_call 20; refine (awake12 _).mono ?_; rintro e wf ⟨rfl, hbf⟩; have BF := Lib.hid hbf; clear hbf))
            first
              | (go_ret; exact ⟨rfl, BF.out⟩)
              | (go_round
                 case rel => exact ⟨k + 1, by omega, by go_num, Lib.hid (HI2.out rfl)⟩
                 case measure => simp [intOf]; omega)
        · obtain rfl : k = 7 := by omega
          exact absurd HI.out HM2.out
  obtain ⟨d, hd⟩ : ∃ d, (c != o) = d := ⟨_, rfl⟩
  cases hcond : (d && G != 0 || K != 0 || !q1 || !q2)
  · exact tail d w hd hcond
  · clear tail HME
    have HD := Lib.hid hd
    rcases hG with rfl | rfl <;> rcases hK with rfl | rfl <;> cases d <;> cases q1 <;> cases q2 <;> first | (exfalso; revert hcond; decide) | skip
    all_goals
      clear hcond
      go_enter Try.func6, Try.ntmps6
      go_wp2_with (first
        | (go_at_call 23; refine (pchange o c _).mono ?_; rw [HG.out]; rintro e w' ⟨rfl, rfl⟩)
        | (go_at_call 24; refine (uchange o c _).mono ?_; rw [HG.out]; rintro e w' ⟨rfl, rfl⟩)
        | (go_at_call 7; refine (pcheck o _).mono ?_; rw [HK.out]; rintro e w' ⟨rfl, rfl⟩)
        | (go_at_call 13; with_reducible refine (pquorum o a _).mono ?_; rw [HQ1.out]; rintro e w' ⟨rfl, rfl⟩)
        | (go_at_call 13; with_reducible refine (pquorum c b _).mono ?_; rw [HQ2.out]; rintro e w' ⟨rfl, rfl⟩)
        | (go_at_call 20; refine (awake12 _).mono ?_; rintro e wf ⟨rfl, hbf⟩; have BF := Lib.hid hbf; clear hbf))
      go_ret
      exact ⟨rfl, BF.out⟩
end Go.Proofs.Ytcjcnoonfaipoaa.W
