/- LAYER 25 (board): what Apply makes of a board that may be may be; awake of the laws. -/
import Derived.Test.YtkmdbdieloimiaaBdN
import Derived.Test.YtkmdbdieloimiaaBdQ
set_option linter.unusedSimpArgs false
set_option linter.unusedVariables false
namespace Go.Proofs.Ytkmdbdieloimiaa.W
open Go Go.ChangeShapes Go.WideShapes Go.ChangeAt Go.RowKit
open Go.Proofs.Ytkmdbdieloimiaa.S

theorem rise_weak : ∀ (L : List Sh) (p q : Int), q ≤ p → riseS (some p) L = true → riseS (some q) L = true
  | [], _, _, _, _ => rfl
  | s :: L, p, q, h, hr => by
    simp only [riseS, behS, Bool.and_eq_true, decide_eq_true_eq] at hr ⊢
    exact ⟨by omega, hr.2⟩
theorem rise_any : ∀ (L : List Sh) (p : Option Int), riseS p L = true → riseS none L = true
  | [], _, _ => rfl
  | s :: L, p, h => by
    simp only [riseS, behS, Bool.and_eq_true] at h ⊢
    exact ⟨trivial, h.2⟩
theorem rise_filter (q : Sh → Bool) : ∀ (L : List Sh) (p : Option Int), riseS p L = true → riseS p (L.filter q) = true
  | [], _, _ => rfl
  | s :: L, p, h => by
    simp only [riseS, Bool.and_eq_true] at h
    have h1 := rise_filter q L (some s.ln) h.2
    cases hq : q s with
    | true => simp only [List.filter_cons, hq, if_true, riseS, Bool.and_eq_true]; exact ⟨h.1, h1⟩
    | false =>
      simp only [List.filter_cons, hq]
      cases p with
      | none => exact rise_any _ _ h1
      | some p =>
        have h2 := h.1
        simp only [behS, decide_eq_true_eq] at h2
        exact rise_weak _ _ _ (Int.le_of_lt h2) h1
theorem rise_ins (x : Int) (b : Int) : ∀ (L : List Sh) (p : Option Int), riseS p L = true → (∀ s ∈ L, s.ln ≠ x) → behS p ⟨x, b⟩ = true → riseS p (insP (abS x) ⟨x, b⟩ L) = true
  | [], p, _, _, hb => by simp only [insP, riseS, Bool.and_eq_true]; exact ⟨hb, trivial⟩
  | s :: L, p, h, hn, hb => by
    simp only [riseS, Bool.and_eq_true] at h
    unfold insP
    by_cases hx : x < s.ln
    · rw [if_pos (show abS x s = true by unfold abS; exact decide_eq_true hx)]
      simp only [riseS, Bool.and_eq_true]
      exact ⟨hb, by simp only [behS]; exact decide_eq_true hx, h.2⟩
    · rw [if_neg (show ¬ abS x s = true by unfold abS; simp; omega)]
      simp only [riseS, Bool.and_eq_true]
      have h3 := hn s (by simp)
      exact ⟨h.1, rise_ins x b L (some s.ln) h.2 (fun t ht => hn t (by simp [ht])) (by simp only [behS]; exact decide_eq_true (by omega))⟩
theorem sum_ins (p : Sh → Bool) (x : Sh) : ∀ L : List Sh, sumS (insP p x L) = sumS L + x.by'
  | [] => by simp [insP, sumS]
  | s :: L => by
    have ih := sum_ins p x L
    unfold insP
    split
    · simp only [sumS, List.map_cons, List.sum_cons] at ih ⊢; omega
    · simp only [sumS, List.map_cons, List.sum_cons] at ih ⊢; omega
theorem total_sum : ∀ l : List Int, S.total l = l.sum
  | [] => rfl
  | n :: l => by have := total_sum l; simp only [S.total, List.sum_cons, this]
theorem tot_sum {L : List Sh} (ha : L.all shOkV = true) (h4 : L.length ≤ 8) : totV L = sumS L := by
  have h1 := all_t40 ha
  have h2 := T40s_sum h1
  have h3 := sumG_ok 9223372036854775807 (L.map Sh.by') 0 (Int.le_refl _) (fun n hn => (h1 n hn).1) (.inr (by
    rw [total_sum]
    have : ((L.map Sh.by').length : Int) ≤ 8 := by rw [List.length_map]; omega
    omega))
  unfold totV
  rw [h3, total_sum]
  unfold sumS
  simp
theorem app_ok {b : Bd} (h : b.ok = true) (m : Cm) : (b.app m).1.ok = true ∧ totV (b.app m).1.L ≤ (b.app m).1.cap ∧ ((b.app m).2.1 = 0 ∨ (b.app m).1 = b) := by
  have h0 := h
  unfold Bd.ok at h0
  simp only [Bool.and_eq_true, decide_eq_true_eq] at h0
  obtain ⟨hc, hr, ha, hs⟩ := h0
  have hself : totV b.L ≤ b.cap := by rw [tot_sum ha (by have := rise_four hr ha; omega)]; exact hs
  unfold Bd.app
  split
  · exact ⟨h, hself, .inr rfl⟩
  · rename_i hg
    have hg : gives m = true := by simpa using hg
    split
    · exact ⟨h, hself, .inr rfl⟩
    · rename_i hf
      have hf := Decidable.not_not.1 hf
      have ho := oth_t40 h m.nu
      have hro : riseS none (others b m.nu) = true := rise_filter _ _ _ hr
      unfold gives at hg
      simp only [Bool.and_eq_true, in64_iff] at hg
      have hsum : ((others b m.nu).map Sh.by' ++ [m.by']).sum = sumS (others b m.nu) + m.by' := by rw [List.sum_append]; simp [sumS]
      rw [hsum] at hf
      split
      · rename_i hb
        have hall : (insP (abS m.nu) ⟨m.nu, m.by'⟩ (others b m.nu)).all shOkV = true := by
          rw [List.all_eq_true]
          intro x hx
          rcases (mem_insP _ _ _ _).1 hx with rfl | hx
          · unfold shOkV; simp only [Bool.and_eq_true, in64_iff]; omega
          · exact List.all_eq_true.1 ho.1 x hx
        have hris : riseS none (insP (abS m.nu) ⟨m.nu, m.by'⟩ (others b m.nu)) = true := rise_ins _ _ _ _ hro (fun s hs e => by
          have := (List.mem_filter.1 hs).2
          unfold ofS at this
          simp [e] at this) rfl
        have hsi : sumS (insP (abS m.nu) ⟨m.nu, m.by'⟩ (others b m.nu)) ≤ b.cap := by rw [sum_ins]; exact hf
        refine ⟨?_, ?_, .inl rfl⟩
        · unfold Bd.ok; simp only [Bool.and_eq_true, decide_eq_true_eq]; exact ⟨hc, hris, hall, hsi⟩
        · show totV (insP (abS m.nu) ⟨m.nu, m.by'⟩ (others b m.nu)) ≤ b.cap
          rw [tot_sum hall (by rw [insP_len]; have := ho.2; omega)]; exact hsi
      · rename_i hb
        have hsi : sumS (others b m.nu) ≤ b.cap := by omega
        refine ⟨?_, ?_, .inl rfl⟩
        · unfold Bd.ok; simp only [Bool.and_eq_true, decide_eq_true_eq]; exact ⟨hc, hro, ho.1, hsi⟩
        · show totV (others b m.nu) ≤ b.cap
          rw [tot_sum ho.1 (by have := ho.2; omega)]; exact hsi
theorem start_ok (x : Int) : Bd.ok ⟨capV x, []⟩ = true := by
  have := capV_in x
  unfold Bd.ok
  simp only [Bool.and_eq_true, decide_eq_true_eq, in64_iff]
  exact ⟨⟨by omega, by omega⟩, rfl, rfl, by simp [sumS]; omega⟩
theorem app_cap (b : Bd) (m : Cm) : (b.app m).1.cap = b.cap := by
  unfold Bd.app
  split
  · rfl
  · split
    · rfl
    · split <;> rfl
theorem bdv {w : World} {cp : Int} {a : Option Addr} {n c : Nat} {L : List Sh} (hc : SI64 cp) (hL : Ls shE w a n c L) : BdV w (.agg (bdC cp a n c).toArray) ⟨cp, L⟩ := ⟨a, n, c, rfl, hc, hL⟩
-- ---- awake
theorem z64 : SI64 0 := ⟨by decide, by decide⟩
def cmZ (nu b : Int) : CmX := ⟨⟨0, 0, 11, 0, 0, [], ⟨#[]⟩, ⟨#[]⟩, nu, b, 0, []⟩, none, 0, 0, none, 0, 0⟩
theorem cmZ_fit (w : World) (nu b : Int) (hn : SI64 nu) (hb : SI64 b) : (cmZ nu b).fit w := ⟨z64, z64, ⟨show (-9223372036854775808 : Int) ≤ 11 by decide, show (11 : Int) ≤ 9223372036854775807 by decide⟩, z64, z64, (Ls.nil w).cvs, show (ByteArray.size ⟨#[]⟩) ≤ maxLen by decide, show (ByteArray.size ⟨#[]⟩) ≤ maxLen by decide, hn, hb, z64, Ls.nil w⟩
theorem cmZ_built (nu b : Int) : Try.prog.built 31 [(2, .int .i64 11), (8, .int .i64 nu), (9, .int .i64 b)] = some (cmC 0 0 11 0 0 none 0 0 ⟨#[]⟩ ⟨#[]⟩ nu b 0 none 0 0).toArray := by kernel_rfl
theorem aw1 : Bd.app ⟨10, []⟩ (cmZ 1 6).m = (⟨10, [⟨1, 6⟩]⟩, 0, 6, 6) := by decide +kernel
theorem aw2 : Bd.app ⟨10, [⟨1, 6⟩]⟩ (cmZ 2 5).m = (⟨10, [⟨1, 6⟩]⟩, 14, 0, 0) := by decide +kernel
theorem aw3 : Bd.ok ⟨10, [⟨1, 6⟩]⟩ = true := by decide +kernel
theorem aw4 : totV [⟨1, 6⟩] = 6 := by decide +kernel
theorem aw0 : capV 10 = 10 := by decide +kernel
theorem Row.res {w : World} {g : Nat} {t : TypeId} {kd cd nu b ti : Int} (h : Row w g t (resC kd cd nu b ti)) : w.cell? ⟨g, 1, none⟩ = some (.int .i64 cd) ∧ w.cell? ⟨g, 2, none⟩ = some (.int .i64 nu) := by
  refine ⟨?_, ?_⟩ <;> (rw [h.cellV]; rfl)
set_option maxRecDepth 100000 in
set_option maxHeartbeats 16000000 in
theorem awake25 (w : World) : Calls Try.prog 13 #[] w fun e w' => e = .returned (.bool true) ∧ Below w.heap.size w w' := by
  have LZ := Lib.hid bd_zero
  have LZS := Lib.hid bd_size
  have RZ := Lib.hid res_zero
  have RZS := Lib.hid res_size
  have HA1 := Lib.hid (fun v (w : World) (h : BdV w v ⟨10, []⟩) => show Calls Try.prog 9 #[v, .agg (cmC 0 0 11 0 0 none 0 0 ⟨#[]⟩ ⟨#[]⟩ 1 6 0 none 0 0).toArray] w _ from pbapply v ⟨10, []⟩ (cmZ 1 6) w h (by decide +kernel) (cmZ_fit w 1 6 ⟨by decide, by decide⟩ ⟨by decide, by decide⟩))
  have HA2 := Lib.hid (fun v (w : World) (h : BdV w v ⟨10, [⟨1, 6⟩]⟩) => show Calls Try.prog 9 #[v, .agg (cmC 0 0 11 0 0 none 0 0 ⟨#[]⟩ ⟨#[]⟩ 2 5 0 none 0 0).toArray] w _ from pbapply v ⟨10, [⟨1, 6⟩]⟩ (cmZ 2 5) w h aw3 (cmZ_fit w 2 5 ⟨by decide, by decide⟩ ⟨by decide, by decide⟩))
  rw [aw1] at HA1
  rw [aw2] at HA2
  have HT := Lib.hid (fun v (w : World) (h : BdV w v ⟨10, [⟨1, 6⟩]⟩) => pbtotal v ⟨10, [⟨1, 6⟩]⟩ w h (by decide))
  rw [show totV (Bd.L ⟨10, [⟨1, 6⟩]⟩) = 6 from aw4] at HT
  have C10 := Lib.hid (show SI64 10 from ⟨by decide, by decide⟩)
  have QB1 := Lib.hid (cmZ_built 1 6)
  have QB2 := Lib.hid (cmZ_built 2 5)
  go_enter Try.func13, Try.ntmps13
  go_wp2_with (first
    | (go_at_call 5; (with_reducible refine (pbstart 10 _ C10.out).mono ?_); rw [aw0]; rintro x w1 ⟨rfl, hb⟩; have B1 := Lib.hid hb; clear hb)
    | ((with_reducible refine build_row (o := ⟨some 7, _, _, _, _, _⟩) rfl _ _ rfl (cmC 0 0 11 0 0 none 0 0 ⟨#[]⟩ ⟨#[]⟩ 1 6 0 none 0 0) ?_ ?_); (focus (go_simp; exact QB1.out)))
    | ((with_reducible refine build_row (o := ⟨some 13, _, _, _, _, _⟩) rfl _ _ rfl (cmC 0 0 11 0 0 none 0 0 ⟨#[]⟩ ⟨#[]⟩ 2 5 0 none 0 0) ?_ ?_); (focus (go_simp; exact QB2.out)))
    | (go_at_call 9; (with_reducible refine (HA1.out (.agg (bdC 10 none 0 0).toArray) w1 (bdv C10.out (Ls.nil _))).mono ?_); rintro x w2 ⟨v2, rfl, hv, hb⟩; obtain ⟨a2, n2, c2, rfl, -, hl2, hn2⟩ := hv; have L2 := Lib.hid hl2; have B2 := Lib.hid (B1.out.trans (hb.mono B1.out.size)); clear hl2 hn2 hb)
    | ((with_reducible refine alloc_row (o := ⟨some 1, _, _, _, _, _⟩) rfl _ rfl _ LZ.out ?_); intro w3 hr hb hz; have P3 := Lib.hid hr; have L3 := Lib.hid (L2.out.mono shOk hb); have B3 := Lib.hid (B2.out.trans (hb.mono B2.out.size)); have S3 := Lib.hid (show w2.heap.size < w3.heap.size by omega); clear hr hb hz)
    | ((with_reducible refine alloc_row (o := ⟨some 2, _, _, _, _, _⟩) rfl _ rfl _ RZ.out ?_); intro w4 hr hb hz; have Q4 := Lib.hid hr; have P4 := Lib.hid (P3.out.below hb P3.out.lt); have L4 := Lib.hid (L3.out.mono shOk hb); have B4 := Lib.hid (B3.out.trans (hb.mono B3.out.size)); clear hr hb hz)
    | ((with_reducible refine store_row (o := ⟨none, _, _, _, _, _⟩) rfl _ (.tmp 1) _ rfl w2.heap.size (bdC 10 a2 n2 c2) ?_ ?_ 25 _ P4.out ?_ ?_ ?_ ?_); (focus go_simp); (focus (first | (go_simp; done) | (go_simp; rfl))); (focus (exact LZS.out)); (focus rfl); (focus (exact bd_one _ _ _ _)); intro w5 hr hu; have P5 := Lib.hid hr; have Q5 := Lib.hid (Q4.out.upd hu (Nat.ne_of_gt S3.out)); have L5 := Lib.hid (L4.out.young (fun h b off e => Nat.ne_of_lt (L2.out.older h b off e)) hu (fun x hx => L2.out.hfit x hx)); have B5 := Lib.hid (B4.out.trans (hu.below B2.out.size)); clear hr hu)
    | ((with_reducible refine store_row (o := ⟨none, _, _, _, _, _⟩) rfl _ (.tmp 2) _ rfl w3.heap.size (resC 0 0 6 6 0) ?_ ?_ 39 _ Q5.out ?_ ?_ ?_ ?_); (focus go_simp); (focus (first | (go_simp; done) | (go_simp; rfl))); (focus (exact RZS.out)); (focus rfl); (focus (exact res_one _ _ _ _ _)); intro w6 hr hu; have Q6 := Lib.hid hr; have P6 := Lib.hid (P5.out.upd hu (Nat.ne_of_lt S3.out)); have L6 := Lib.hid (L5.out.young (fun h b off e => Nat.ne_of_lt (Nat.lt_trans (L2.out.older h b off e) S3.out)) hu (fun x hx => L2.out.hfit x hx)); have B6 := Lib.hid (B5.out.trans (hu.below B3.out.size)); clear hr hu)
    | ((with_reducible refine load_row (o := ⟨some 12, _, _, _, _, _⟩) rfl _ _ rfl w2.heap.size ?_ _ (bdC 10 a2 n2 c2) _ P6.out Try.underlying25 rfl ?_ ?_); (focus go_simp); (focus (exact LZS.out)))
    | (go_at_call 9; (with_reducible refine (HA2.out (.agg (bdC 10 a2 n2 c2).toArray) w6 (bdv C10.out L6.out)).mono ?_); rintro x w7 ⟨v7, rfl, hv, hb⟩; obtain ⟨a7, n7, c7, rfl, -, -, -⟩ := hv; have P7 := Lib.hid (P6.out.below hb P6.out.lt); have Q7 := Lib.hid (Q6.out.below hb Q6.out.lt); have L7 := Lib.hid (L6.out.mono shOk hb); have B7 := Lib.hid (B6.out.trans (hb.mono B6.out.size)); clear hb)
    | ((with_reducible refine alloc_row (o := ⟨some 3, _, _, _, _, _⟩) rfl _ rfl _ LZ.out ?_); intro w8 hr hb hz; have X8 := Lib.hid hr; have P8 := Lib.hid (P7.out.below hb P7.out.lt); have Q8 := Lib.hid (Q7.out.below hb Q7.out.lt); have L8 := Lib.hid (L7.out.mono shOk hb); have B8 := Lib.hid (B7.out.trans (hb.mono B7.out.size)); have S8 := Lib.hid (show w7.heap.size < w8.heap.size by omega); clear hr hb hz)
    | ((with_reducible refine alloc_row (o := ⟨some 4, _, _, _, _, _⟩) rfl _ rfl _ RZ.out ?_); intro w9 hr hb hz; have Y9 := Lib.hid hr; have X9 := Lib.hid (X8.out.below hb X8.out.lt); have P9 := Lib.hid (P8.out.below hb P8.out.lt); have Q9 := Lib.hid (Q8.out.below hb Q8.out.lt); have L9 := Lib.hid (L8.out.mono shOk hb); have B9 := Lib.hid (B8.out.trans (hb.mono B8.out.size)); clear hr hb hz)
    | ((with_reducible refine store_row (o := ⟨none, _, _, _, _, _⟩) rfl _ (.tmp 3) _ rfl w7.heap.size (bdC 10 a7 n7 c7) ?_ ?_ 25 _ X9.out ?_ ?_ ?_ ?_); (focus go_simp); (focus (first | (go_simp; done) | (go_simp; rfl))); (focus (exact LZS.out)); (focus rfl); (focus (exact bd_one _ _ _ _)); intro w10 hr hu; have Y10 := Lib.hid (Y9.out.upd hu (Nat.ne_of_gt S8.out)); have P10 := Lib.hid (P9.out.upd hu (Nat.ne_of_lt P7.out.lt)); have Q10 := Lib.hid (Q9.out.upd hu (Nat.ne_of_lt Q7.out.lt)); have L10 := Lib.hid (L9.out.young (fun h b off e => Nat.ne_of_lt (L7.out.older h b off e)) hu (fun x hx => L2.out.hfit x hx)); have B10 := Lib.hid (B9.out.trans (hu.below B7.out.size)); clear hr hu)
    | ((with_reducible refine store_row (o := ⟨none, _, _, _, _, _⟩) rfl _ (.tmp 4) _ rfl w8.heap.size (resC 0 14 0 0 0) ?_ ?_ 39 _ Y10.out ?_ ?_ ?_ ?_); (focus go_simp); (focus (first | (go_simp; done) | (go_simp; rfl))); (focus (exact RZS.out)); (focus rfl); (focus (exact res_one _ _ _ _ _)); intro w11 hr hu; have Y11 := Lib.hid hr; have P11 := Lib.hid (P10.out.upd hu (Nat.ne_of_lt (Nat.lt_trans P7.out.lt S8.out))); have Q11 := Lib.hid (Q10.out.upd hu (Nat.ne_of_lt (Nat.lt_trans Q7.out.lt S8.out))); have L11 := Lib.hid (L10.out.young (fun h b off e => Nat.ne_of_lt (Nat.lt_trans (L7.out.older h b off e) S8.out)) hu (fun x hx => L2.out.hfit x hx)); have B11 := Lib.hid (B10.out.trans (hu.below B8.out.size)); obtain ⟨q1, q2⟩ := Q11.out.res; obtain ⟨y1, -⟩ := Y11.out.res; clear hr hu)
    | ((with_reducible refine load_rowg (o := ⟨some 31, _, _, _, _, _⟩) 13 true 30 rfl _ _ rfl w2.heap.size _ (bdC 10 a2 n2 c2) _ P11.out Try.underlying25 rfl ?_ ?_ ?_ ?_ ?_); (focus rfl); (focus (first | (go_simp; done) | (go_simp; rfl))); (focus go_simp); (focus (exact LZS.out)))
    | (go_at_call 11; (with_reducible refine (HT.out (.agg (bdC 10 a2 n2 c2).toArray) w11 (bdv C10.out L11.out)).mono ?_); rintro x w12 ⟨rfl, hb⟩; have B12 := Lib.hid (B11.out.trans (hb.mono B11.out.size)); clear hb))
  go_ret
  exact ⟨by first | rfl | exact one (vbool (by simp)), B12.out⟩
end Go.Proofs.Ytkmdbdieloimiaa.W
