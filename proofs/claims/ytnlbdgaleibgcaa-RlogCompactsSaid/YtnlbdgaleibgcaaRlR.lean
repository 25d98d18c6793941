/- LAYER 13 (rlog): law Compacts. -/
import Derived.Test.YtnlbdgaleibgcaaRlP
import Derived.Test.YtnlbdgaleibgcaaRlW
set_option linter.unusedSimpArgs false
set_option linter.unusedVariables false
namespace Go.Proofs.Ytnlbdgaleibgcaa.W
open Go Go.ChangeShapes Go.WideShapes Go.ChangeAt Go.RowKit

theorem ens_open {H : Type} {enc : TypeId × Value → H} {w : World} {base : Nat} {held : Bool} {a : Option Addr} {len cap : Nat} {d : DataW H} {pl : List MemPlace} (h : DataW.Trod enc Try.prog w base (fun _ => true) held 22 (.slice a len cap) d pl) : ∃ L, Ents w a len cap L := by
  obtain ⟨fuel, hf⟩ := h
  obtain ⟨a', n', c', L, hc, hL⟩ := ens_cells hf
  simp [Value.cells] at hc
  obtain ⟨rfl, rfl, rfl⟩ := hc
  exact ⟨L, hL⟩
theorem apps_b : ∀ (l : List Pe) (q : LS), (q.apps l).b = q.b
  | [], _ => rfl
  | x :: l, q => by
    by_cases h : (q.app x).2 = 0
    · rw [apps_go h, apps_b l, (LS.app_b q x).1]
    · rw [apps_stop h]
theorem apps_len : ∀ (l : List Pe) (q : LS), (q.apps l).l.length ≤ q.l.length + l.length
  | [], _ => Nat.le_refl _
  | x :: l, q => by
    by_cases h : (q.app x).2 = 0
    · rw [apps_go h]
      have := apps_len l (q.app x).1
      have := LS.app_len q x
      simp only [List.length_cons]; omega
    · rw [apps_stop h]; omega
theorem LOK.apps : ∀ (l : List Pe) (q : LS), LOK q → q.l.length + l.length ≤ 200 → LOK (q.apps l)
  | [], _, h, _ => h
  | x :: l, q, h, hn => by
    simp only [List.length_cons] at hn
    by_cases hx : (q.app x).2 = 0
    · rw [apps_go hx]
      have := LS.app_len q x
      exact LOK.apps l _ (h.app (by omega)) (by omega)
    · rw [apps_stop hx]; exact h
set_option maxRecDepth 100000 in
set_option maxHeartbeats 8000000 in
theorem law_RlogCompacts (b t c : Int) (a : Option Addr) (n cp : Nat) (L0 : List (En × List UInt8)) (i : Int) (w : World) (w0 : (Lit.int .i64 b).wf = true) (w1 : (Lit.int .i64 t).wf = true) (w2 : (Lit.int .i64 c).wf = true) (wl : Ents w a n cp L0) (w4 : (Lit.int .i64 i).wf = true) :
    Calls Try.prog 5 #[.int .i64 b, .int .i64 t, .int .i64 c, .slice a n cp, .int .i64 i] w fun x w' => x = .returned (.bool true) ∧ Below w.heap.size w w' := by
  obtain ⟨V, hV⟩ : ∃ V : Bool, (V = true ↔ (n ≤ 60 ∧ ∀ j, j < n → (L0.getD j Ez).1.n ≤ 300)) := by classical exact ⟨decide (n ≤ 60 ∧ ∀ j, j < n → (L0.getD j Ez).1.n ≤ 300), by simp⟩
  have FW := Lib.hid (lfew13 a n cp L0 w wl V hV)
  have WL := Lib.hid wl
  clear w0 w1 w2 wl
  cases V with
  | false =>
    clear hV
    go_enter Try.func5, Try.ntmps5
    go_wp2_with (first
      | (go_at_call 7; (with_reducible refine FW.out.mono ?_); rintro x v1 ⟨rfl, hb⟩; have B1 := Lib.hid hb; clear hb)
      | (go_at_call 8; (with_reducible refine (awake13 v1).mono ?_); rintro x wz ⟨rfl, hb⟩; have Bz := Lib.hid (B1.out.trans (hb.mono B1.out.size)); clear hb))
    go_ret
    exact ⟨rfl, Bz.out⟩
  | true =>
    have hn := (hV.1 rfl).1
    clear hV
    obtain ⟨b', hb'⟩ : ∃ z, atV b = z := ⟨_, rfl⟩
    have hbb := atV_le b
    rw [hb'] at hbb
    have AT := Lib.hid (fun (W : World) => lat b W)
    rw [hb'] at AT
    have NW := Lib.hid (fun (W : World) (h : Ents W a n cp L0) => qnew b' t c a n cp L0 W h (by omega) (by omega))
    have hL0 := WL.out.hlen
    have hok : LOK ((⟨b', t, c, []⟩ : LS).apps (L0.map pe)) := LOK.apps (L0.map pe) _ ⟨trivial, (show 0 ≤ b' ∧ b' ≤ 4294967296 by omega), Nat.zero_le _, by simp⟩ (by simp; omega)
    have hqb := apps_b (L0.map pe) (⟨b', t, c, []⟩ : LS)
    have hql := apps_len (L0.map pe) (⟨b', t, c, []⟩ : LS)
    simp only [List.length_nil, List.length_map, hL0, Nat.zero_add] at hql
    obtain ⟨q, hq⟩ : ∃ q, (⟨b', t, c, []⟩ : LS).apps (L0.map pe) = q := ⟨_, rfl⟩
    rw [hq] at NW hok hqb hql
    dsimp only at hqb
    obtain ⟨lv, hlv⟩ : ∃ lv, q.last = lv := ⟨_, rfl⟩
    have hl1 : b' ≤ lv := by rw [← hlv, ← hqb]; unfold LS.last; omega
    have hl2 : lv ≤ b' + 60 := by rw [← hlv, ← hqb]; unfold LS.last; omega
    obtain ⟨r, hr⟩ : ∃ r, (IntKind.u64.wrap i).tmod (lv - b' + 1) = r := ⟨_, rfl⟩
    have hr1 : 0 ≤ r ∧ r ≤ lv - b' := by
      have e1 : IntKind.u64.wrap i = i % 18446744073709551616 := IntKind.wrap_u64 i
      rw [← hr, e1, Int.tmod_eq_emod_of_nonneg (by omega)]
      have h1 := Int.emod_nonneg (i % 18446744073709551616) (show lv - b' + 1 ≠ 0 by omega)
      have h2 := Int.emod_lt_of_pos (i % 18446744073709551616) (show 0 < lv - b' + 1 by omega)
      omega
    obtain ⟨m, hm⟩ : ∃ m, b' + r = m := ⟨_, rfl⟩
    obtain ⟨m1, hm1⟩ : ∃ m1, m + 1 = m1 := ⟨_, rfl⟩
    have e0 : IntKind.i64.wrap (lv - b') = lv - b' := by rw [IntKind.wrap_i64]; omega
    have e1 : IntKind.i64.wrap (lv - b' + 1) = lv - b' + 1 := by rw [IntKind.wrap_i64]; omega
    have e2 : IntKind.u64.wrap (lv - b' + 1) = lv - b' + 1 := by rw [IntKind.wrap_u64]; omega
    have e4 : IntKind.i64.wrap r = r := by rw [IntKind.wrap_i64]; omega
    have e5 : IntKind.i64.wrap (b' + r) = m := by rw [IntKind.wrap_i64]; omega
    have e6 : IntKind.i64.wrap (m + 1) = m1 := by rw [IntKind.wrap_i64]; omega
    have e9 : (lv - b' + 1 == 0) = false := by simp; omega
    have e10 : ¬ lv - b' + 1 = 0 := by omega
    have ca := compact_all hok (i := m) (by omega) (by rw [hlv]; omega)
    have hq2l : (q.compact m).1.last = lv := by rw [ca.2.2.1, hlv]
    have QL := Lib.hid (fun (W : World) (p : Nat) (F : Nat → Prop) (h : GL q W p F) => qlast h)
    have QT := Lib.hid (fun (W : World) (p : Nat) (F : Nat → Prop) (h : GL q W p F) => qlastT h)
    have QC := Lib.hid (fun (W : World) (p : Nat) (F : Nat → Prop) (h : GL q W p F) => qconf h)
    have QF := Lib.hid (fun (W : World) (p : Nat) (F : Nat → Prop) (h : GL q W p F) => qfrom h m1 100 (by decide))
    have QK := Lib.hid (fun (W : World) (p : Nat) (F : Nat → Prop) (h : GL q W p F) => qcompact h m (by rw [hlv]; omega))
    have QB2 := Lib.hid (fun (W : World) (p : Nat) (F : Nat → Prop) (h : GL (q.compact m).1 W p F) => qbase h)
    have QL2 := Lib.hid (fun (W : World) (p : Nat) (F : Nat → Prop) (h : GL (q.compact m).1 W p F) => qlast h)
    have QT2 := Lib.hid (fun (W : World) (p : Nat) (F : Nat → Prop) (h : GL (q.compact m).1 W p F) => qlastT h)
    have QC2 := Lib.hid (fun (W : World) (p : Nat) (F : Nat → Prop) (h : GL (q.compact m).1 W p F) => qconf h)
    have QF2 := Lib.hid (fun (W : World) (p : Nat) (F : Nat → Prop) (h : GL (q.compact m).1 W p F) => qfrom h m1 100 (by decide))
    have hfr := fun j hj => from_rise hok (i := m) (by omega) 100 (j := j) hj
    have hfl := from_len hok (m + 1) 100
    rw [hlv] at ca QL QT QC
    rw [ca.1] at QK
    rw [ca.2.1] at QB2
    rw [hq2l] at QL2 QT2 QC2
    rw [ca.2.2.2.1] at QT2
    rw [ca.2.2.2.2.1] at QC2
    have hff := ca.2.2.2.2.2 100
    rw [hm1] at hff hfr hfl
    rw [hff] at QF2
    obtain ⟨q2, hq2⟩ : ∃ q2, (q.compact m).1 = q2 := ⟨_, rfl⟩
    obtain ⟨tv, htv⟩ : ∃ tv, q.term lv = tv := ⟨_, rfl⟩
    obtain ⟨cv, hcv⟩ : ∃ cv, q.confAt lv = cv := ⟨_, rfl⟩
    obtain ⟨RL, hRL⟩ : ∃ RL, q.from m1 100 = RL := ⟨_, rfl⟩
    rw [hq2] at QK QB2 QL2 QT2 QC2 QF2
    rw [htv] at QT QT2
    rw [hcv] at QC QC2
    rw [hRL] at QF QF2 hfl
    have HFR : Hid (∀ j (hj : j < RL.length), (RL[j]).1 = m1 + j) := Lib.hid (by subst hRL; exact hfr)
    have HM1 := Lib.hid (show m1 ≤ 2000000000 ∧ 0 ≤ m1 by omega)
    have gl1 : (0 : Int) ≤ lv - b' + 1 := by omega
    have ES := Lib.hid en_size
    have EZ := Lib.hid en_zero
    clear hb' hq hok hqb hql hL0 hlv hl1 hl2 hm hm1 ca hq2l hfr hff hq2 htv hcv hRL hbb hr1
    go_enter Try.func5, Try.ntmps5
    go_wp2_with (first
      | (go_at_call 7; (with_reducible refine FW.out.mono ?_); rintro x v1 ⟨rfl, hb⟩; have B1 := Lib.hid hb; clear hb)
      | (go_at_call 9; (with_reducible refine (AT.out v1).mono ?_); rintro x v2 ⟨rfl, rfl⟩)
      | (go_at_call 10; (with_reducible refine (NW.out v1 ?_).mono ?_); (focus (exact WL.out.mono B1.out)); rintro x v3 ⟨p, F, rfl, hG, hle, hqb, hF, hb⟩; have G3 := Lib.hid hG; have F3 := Lib.hid (fun k hk => Nat.le_trans B1.out.size (hF k hk)); have B3 := Lib.hid (B1.out.trans (hb.mono B1.out.size)); clear hG hle hqb hF hb)
      | (go_at_call 30; (with_reducible refine (QL.out v3 p F G3.out).mono ?_); rintro x v4 ⟨rfl, hb⟩; have G4 := Lib.hid (G3.out.mono hb); have B4 := Lib.hid (B3.out.trans (hb.mono B3.out.size)); clear hb)
      | (go_at_call 31; (with_reducible refine (QT.out v4 p F G4.out).mono ?_); rintro x v5 ⟨rfl, hb⟩; have G5 := Lib.hid (G4.out.mono hb); have B5 := Lib.hid (B4.out.trans (hb.mono B4.out.size)); clear hb)
      | (go_at_call 32; (with_reducible refine (QC.out v5 p F G5.out).mono ?_); rintro x v6 ⟨rfl, hb⟩; have G6 := Lib.hid (G5.out.mono hb); have B6 := Lib.hid (B5.out.trans (hb.mono B5.out.size)); clear hb)
      | (go_at_call 22; (with_reducible refine (QF.out v6 p F G6.out).mono ?_); rintro x v7 ⟨fa, fn, fc, R, rfl, hfre, hRe, hb⟩; have FR := Lib.hid hfre; have RE := Lib.hid hRe; have G7 := Lib.hid (G6.out.mono hb); have B7 := Lib.hid (B6.out.trans (hb.mono B6.out.size)); have FL7 := Lib.hid (fun x hx => G6.out.lt x hx); clear hfre hRe hb)
      | (go_at_call 18; (with_reducible refine (QK.out v7 p F G7.out).mono ?_); rintro x v8 ⟨rfl, hG, hft⟩; have G8 := Lib.hid hG; have FR8 := Lib.hid (FR.out.ft hft FL7.out); have B8 := Lib.hid (B7.out.trans (hft.below B7.out.size F3.out)); clear hG hft)
      | (go_at_call 33; (with_reducible refine (QB2.out v8 p F G8.out).mono ?_); rintro x v9 ⟨rfl, hb⟩; have G9 := Lib.hid (G8.out.mono hb); have FR9 := Lib.hid (FR8.out.mono hb); have B9 := Lib.hid (B8.out.trans (hb.mono B8.out.size)); clear hb)
      | (go_at_call 30; (with_reducible refine (QL2.out v9 p F G9.out).mono ?_); rintro x v10 ⟨rfl, hb⟩; have G10 := Lib.hid (G9.out.mono hb); have FR10 := Lib.hid (FR9.out.mono hb); have B10 := Lib.hid (B9.out.trans (hb.mono B9.out.size)); clear hb)
      | (go_at_call 31; (with_reducible refine (QT2.out v10 p F G10.out).mono ?_); rintro x v11 ⟨rfl, hb⟩; have G11 := Lib.hid (G10.out.mono hb); have FR11 := Lib.hid (FR10.out.mono hb); have B11 := Lib.hid (B10.out.trans (hb.mono B10.out.size)); clear hb)
      | (go_at_call 32; (with_reducible refine (QC2.out v11 p F G11.out).mono ?_); rintro x v12 ⟨rfl, hb⟩; have G12 := Lib.hid (G11.out.mono hb); have FR12 := Lib.hid (FR11.out.mono hb); have B12 := Lib.hid (B11.out.trans (hb.mono B11.out.size)); clear hb))
    have HRl := Lib.hid (show RL.length = fn by rw [← RE.out, List.length_map]; exact FR12.out.len)
    have hfn : fn ≤ 200 := by rw [← HRl.out]; exact hfl
    clear hfl
    go_loopw [82] (fun iv wr => ∃ j : Nat, iv = .int .i64 (j : Int) ∧ j ≤ fn ∧ Hid (Below v12.heap.size v12 wr)) (fun iv _ => fn - (intOf iv).toNat)
    case atStart => exact ⟨0, rfl, Nat.zero_le _, Lib.hid (Below.refl _ _)⟩
    case round =>
      obtain ⟨j, rfl, hj, HB⟩ := hrel
      by_cases hlt : j < fn
      · obtain ⟨x1, o1, rfl, hx1, -, hk1⟩ := FR12.out.ents.at HB.out j hlt
        have hix : (R.getD j Ez).1.ix = m1 + j := by
          have h1 := HFR.out j (by rw [HRl.out]; exact hlt)
          rw [← h1]
          have h2 : RL[j]'(by rw [HRl.out]; exact hlt) = (R.map pe)[j]'(by rw [RE.out, HRl.out]; exact hlt) := by congr 1; exact RE.out.symm
          rw [h2, List.getElem_map]
          simp [List.getD_eq_getElem?_getD, hk1, pe]
        obtain ⟨⟨⟨ix, tm, kd, qa, qn, qc⟩, ql⟩, hq⟩ : ∃ y, R.getD j Ez = y := ⟨_, rfl⟩
        rw [hq] at hx1 hix
        dsimp only at hx1 hix
        have X1 := Lib.hid hx1
        have g1 : (0 : Int) ≤ (j : Int) := by omega
        have g2 : (j : Int) < (fn : Int) := by omega
        have hw : IntKind.i64.wrap (m1 + (j : Int)) = ix := by rw [IntKind.wrap_i64, hix]; have := HM1.out; omega
        clear hx1 hq hk1 hix
        go_wp2_with (first
          | ((with_reducible refine load_cells (o := ⟨some 86, _, _, _, _, _⟩) rfl _ _ rfl x1 (o1 + j * 4) ?_ (En.cells ⟨ix, tm, kd, qa, qn, qc⟩) _ X1.out Try.underlying34 rfl ?_ ?_); (focus go_simp); (focus (exact ES.out)))
          | ((with_reducible refine alloc_row (o := ⟨some 17, _, _, _, _, _⟩) rfl _ rfl _ EZ.out ?_); intro w2 hr hb hz; have E2 := Lib.hid hr; have B2' := Lib.hid (HB.out.trans (hb.mono HB.out.size)); clear hr hb hz)
          | ((with_reducible refine store_row (o := ⟨none, _, _, _, _, _⟩) rfl _ (.tmp 17) _ rfl wr.heap.size (En.cells ⟨ix, tm, kd, qa, qn, qc⟩) ?_ ?_ 34 _ E2.out ?_ ?_ (cells_one _) ?_); (focus go_simp); (focus (first | (go_simp; done) | (go_simp; rfl))); (focus (exact ES.out)); (focus rfl); intro w3 hr hu; obtain ⟨c0, c1, c2, c3⟩ := hr.q4; have B3' := Lib.hid (B2'.out.trans (hu.below HB.out.size)); clear hr hu))
        go_roundw
        case rel => exact ⟨j + 1, vint (by omega), by omega, B3'⟩
        case measure => (simp [intOf]; try omega)
      · obtain rfl : j = fn := by omega
        have G13 := Lib.hid (G12.out.mono HB.out)
        have FR13 := Lib.hid (FR12.out.mono HB.out)
        have B13 := Lib.hid (B12.out.trans (HB.out.mono B12.out.size))
        go_wp2_with (first
          | (go_at_call 22; (with_reducible refine (QF2.out wr p F G13.out).mono ?_); rintro x v14 ⟨ga, gn, gc, R2, rfl, hfre, hRe, hb⟩; have FS14 := Lib.hid hfre; have RE2 := Lib.hid hRe; have FR14 := Lib.hid (FR13.out.mono hb); have B14 := Lib.hid (B13.out.trans (hb.mono B13.out.size)); have GN := Lib.hid (show gn ≤ 1000000 by rw [← FS14.out.len, ← List.length_map (f := pe), RE2.out, HRl.out]; omega); clear hfre hRe hb)
          | (go_at_call 23; (with_reducible refine (lequal ga fa gn gc j fc R2 R v14 FS14.out.ents FR14.out.ents GN.out).mono ?_); rw [RE.out, RE2.out, decide_eq_true rfl]; rintro x v15 ⟨rfl, hb⟩; have B15 := Lib.hid (B14.out.trans (hb.mono B14.out.size)); clear hb)
          | (go_at_call 8; (with_reducible refine (awake13 v15).mono ?_); rintro x wz ⟨rfl, hb⟩; have Bz := Lib.hid (B15.out.trans (hb.mono B15.out.size)); clear hb))
        go_ret
        exact ⟨one (vbool (by simp)), Bz.out⟩
end Go.Proofs.Ytnlbdgaleibgcaa.W
