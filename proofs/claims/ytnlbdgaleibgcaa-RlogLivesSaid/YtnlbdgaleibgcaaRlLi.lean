/- LAYER 13 (rlog): law Lives. -/
import Derived.Test.YtnlbdgaleibgcaaRlU
set_option linter.unusedSimpArgs false
set_option linter.unusedVariables false
namespace Go.Proofs.Ytnlbdgaleibgcaa.W
open Go Go.ChangeShapes Go.WideShapes Go.ChangeAt Go.RowKit

/-- what is between two calls -/
theorem cells_in8 {op dN dt dc' ix tm kd : Int} {qa : Option Addr} {qn qc : Nat} (j : Nat) (u : Value) (h : (En.cells ⟨ix, tm, kd, qa, qn, qc⟩)[j]? = some u) : (Dd13.cells ⟨op, dN, dt, dc', ⟨ix, tm, kd, qa, qn, qc⟩⟩)[4 + j]? = some u := by
  rcases j with _ | _ | _ | _ | j
  · exact h
  · exact h
  · exact h
  · exact h
  · have : j + 1 + 1 + 1 + 1 < 4 := (List.getElem?_eq_some_iff.1 h).1
    omega
structure St13 (k : Nat) (q : LS) : Prop where
  n : q.l.length ≤ 60 + k
  l : q.last ≤ 1073741824 + 60 + k
theorem Fr.row13 {w : World} {base : Nat} {v : Value} {l : List UInt8} (h : Fr w base v l) (n : Nat) (hn : l.length = n) : ∃ a c, v = .slice a n c ∧ Rd w a n c l ∧ (n = 0 ∨ ∃ g cur, a = some ⟨g, 0, none⟩ ∧ base ≤ g ∧ Row w g 5 cur ∧ n ≤ cur.length) := by
  subst hn
  obtain ⟨a, cap, hv, hr, ha⟩ := h.form
  refine ⟨a, cap, hv, hr, ?_⟩
  rcases h.2 with ⟨h1, h2⟩ | ⟨g, cap', cur, h1, hg, hh, hle, hm, hs, ht⟩
  · left; simpa using h2
  · right
    rw [hv] at h1
    simp at h1
    refine ⟨g, cur.toList, h1.1, hg, by unfold Row; simpa using hh, ?_⟩
    simp at hs hle ⊢
    omega
set_option maxRecDepth 100000 in
set_option maxHeartbeats 16000000 in
theorem law_RlogLives (b t c : Int) (a : Option Addr) (n cp : Nat) (L0 : List (En × List UInt8)) (da : Option Addr) (dn dc : Nat) (D : List (Dd13 × List UInt8)) (w : World) (w0 : (Lit.int .i64 b).wf = true) (w1 : (Lit.int .i64 t).wf = true) (w2 : (Lit.int .i64 c).wf = true) (wl : Ents w a n cp L0) (wd : Ds13 w da dn dc D) :
    Calls Try.prog 3 #[.int .i64 b, .int .i64 t, .int .i64 c, .slice a n cp, .slice da dn dc] w fun x w' => x = .returned (.bool true) ∧ Below w.heap.size w w' := by
  obtain ⟨V, hV⟩ : ∃ V : Bool, (V = true ↔ (n ≤ 60 ∧ ∀ j, j < n → (L0.getD j Ez).1.n ≤ 300)) := by classical exact ⟨decide (n ≤ 60 ∧ ∀ j, j < n → (L0.getD j Ez).1.n ≤ 300), by simp⟩
  have FW := Lib.hid (lfew13 a n cp L0 w wl V hV)
  have WL := Lib.hid wl
  have WD := Lib.hid wd
  clear w0 w1 w2 wl wd
  cases V with
  | false =>
    clear hV
    go_enter Try.func3, Try.ntmps3
    go_wp2_with (first
      | (go_at_call 7; (with_reducible refine FW.out.mono ?_); rintro x v1 ⟨rfl, hb⟩; have B1 := Lib.hid hb; clear hb)
      | (go_at_call 8; (with_reducible refine (awake13 v1).mono ?_); rintro x wz ⟨rfl, hb⟩; have Bz := Lib.hid (B1.out.trans (hb.mono B1.out.size)); clear hb))
    go_ret
    exact ⟨rfl, Bz.out⟩
  | true =>
    have hn := (hV.1 rfl).1
    clear hV
    obtain ⟨b', hb'⟩ : ∃ z, atV b = z := ⟨_, rfl⟩
    have hbb := atV_le b
    rw [hb'] at hbb
    have AT := Lib.hid (fun (W : World) => lat b W)
    rw [hb'] at AT
    have NW := Lib.hid (fun (W : World) (h : Ents W a n cp L0) => qnew b' t c a n cp L0 W h (by omega) (by omega))
    have YW := Lib.hid (fun (W : World) (h : Ents W a n cp L0) => ynew b' t c a n cp L0 W h (by omega) (by omega))
    have hL0 := WL.out.hlen
    have hqb := apps_b (L0.map pe) (⟨b', t, c, []⟩ : LS)
    have hql := apps_len (L0.map pe) (⟨b', t, c, []⟩ : LS)
    simp only [List.length_nil, List.length_map, hL0, Nat.zero_add] at hql
    obtain ⟨q0, hq⟩ : ∃ q, (⟨b', t, c, []⟩ : LS).apps (L0.map pe) = q := ⟨_, rfl⟩
    rw [hq] at NW YW hqb hql
    dsimp only at hqb
    have ST0 : Hid (St13 0 q0) := Lib.hid ⟨by omega, by unfold LS.last; rw [hqb]; omega⟩
    have HQ0 := Lib.hid (show q0.l.length ≤ 100 by omega)
    have DZ := Lib.hid d13_zero
    have DS := Lib.hid d13_size
    have EZ := Lib.hid en_zero
    have ES := Lib.hid en_size
    clear hb' hq hqb hql hL0 hbb hn
    go_enter Try.func3, Try.ntmps3
    go_wp2_with (first
      | (go_at_call 7; (with_reducible refine FW.out.mono ?_); rintro x v1 ⟨rfl, hb⟩; have B1 := Lib.hid hb; clear hb)
      | (go_at_call 9; (with_reducible refine (AT.out v1).mono ?_); rintro x v2 ⟨rfl, rfl⟩)
      | (go_at_call 10; (with_reducible refine (NW.out v1 ?_).mono ?_); (focus (exact WL.out.mono B1.out)); rintro x v3 ⟨p, F0, rfl, hG, -, -, hF, hb⟩; have G3 := Lib.hid hG; have F3 := Lib.hid (fun k hk => Nat.le_trans B1.out.size (hF k hk)); have B3 := Lib.hid (B1.out.trans (hb.mono B1.out.size)); clear hG hF hb)
      | (go_at_call 11; (with_reducible refine (YW.out v3 ?_).mono ?_); (focus (exact WL.out.mono B3.out)); rintro x v4 ⟨p', G0, rfl, hX, hG, hb⟩; have P4 := Lib.hid (pr_new G3.out F3.out hX hG hb B3.out.size); have B4 := Lib.hid (B3.out.trans (hb.mono B3.out.size)); clear hX hG hb)
      | (go_at_call 12; (with_reducible refine (lsame P4.out b' HQ0.out).mono ?_); rintro x v5 ⟨rfl, hb⟩; have P5 := Lib.hid (P4.out.mono hb); have B5 := Lib.hid (B4.out.trans (hb.mono B4.out.size)); clear hb))
    go_loopw [47] (fun iv wr => ∃ (k : Nat) (q : LS) (F G : Nat → Prop), iv = .int .i64 (k : Int) ∧ k ≤ dn ∧ k ≤ 40 ∧ Hid (PR q q wr p p' F G w.heap.size) ∧ Hid (St13 k q) ∧ Hid (Below w.heap.size w wr)) (fun iv _ => dn - (intOf iv).toNat)
    case atStart => exact ⟨0, q0, F0, G0, rfl, Nat.zero_le _, Nat.zero_le _, P5, ST0, B5⟩
    case round =>
      obtain ⟨k, q, F, G, rfl, hk, hk40, HP, HS, HB⟩ := hrel
      obtain ⟨wo, rfl⟩ : ∃ wo, wo = wr := ⟨_, rfl⟩
      by_cases hlt : k < dn
      · obtain ⟨x1, o1, rfl, hx1, hf1⟩ := WD.out.at HB.out k hlt
        obtain ⟨⟨⟨op, dN, dt, dc', ⟨ix, tm, kd, qa, qn, qc⟩⟩, l⟩, hq⟩ : ∃ y, D.getD k Dz13 = y := ⟨_, rfl⟩
        rw [hq] at hx1 hf1
        dsimp only at hx1 hf1
        obtain ⟨C8, hC8⟩ : ∃ C8, (Dd13.cells ⟨op, dN, dt, dc', ⟨ix, tm, kd, qa, qn, qc⟩⟩) = C8 := ⟨_, rfl⟩
        have X1 : Hid (∀ j v, (Dd13.cells ⟨op, dN, dt, dc', ⟨ix, tm, kd, qa, qn, qc⟩⟩)[j]? = some v → wo.cell? ⟨x1, o1 + k * 8 + j, none⟩ = some v) := Lib.hid hx1
        have FE := Lib.hid hf1.e
        have WN := Lib.hid hf1.n
        have WT := Lib.hid hf1.t
        have g1 : (0 : Int) ≤ (k : Int) := by omega
        have g2 : (k : Int) < (dn : Int) := by omega
        have hqlen := FE.out.rd.hlen
        have HLN := Lib.hid hqlen
        have hk1 := HS.out.n
        have hk2 := HS.out.l
        have HN1 := Lib.hid hk1
        have HN2 := Lib.hid hk2
        clear hx1 hf1 hq C8 hC8 hqlen hk1 hk2
        by_cases h40 : k < 40
        · have t1 : decide ((40 : Int) ≤ (k : Int)) = false := by simp; omega
          have t2 : (k : Int) < 40 := by omega
          by_cases h300 : qn ≤ 300
          · have t3 : decide ((300 : Int) < (qn : Int)) = false := by simp; omega
            have t4 : (qn : Int) ≤ 300 := by omega
            have HQL := Lib.hid (show q.l.length + 1 ≤ 200 by have := HN1.out; omega)
            have HQ4 := Lib.hid (show q.last ≤ 4294967296 by have := HN2.out; omega)
            have HQM := Lib.hid (show qn ≤ 140737488355000 by omega)
            have OLD := Lib.hid (fun (x : Nat) (h : wo.heap.size ≤ x) => HP.out.old h)
            by_cases c0 : op = 0 ∨ op = 1 ∨ op = 2
            · have hU : ((op == 0) = true) ∨ ((op == 0) = false ∧ (op == 1) = true) ∨ ((op == 0) = false ∧ (op == 1) = false ∧ (op == 2) = true) := by
                rcases c0 with rfl | rfl | rfl
                · exact .inl rfl
                · exact .inr (.inl ⟨rfl, rfl⟩)
                · exact .inr (.inr ⟨rfl, rfl, rfl⟩)
              clear c0
              rcases hU with u0 | ⟨u0, u1⟩ | ⟨u0, u1, u2⟩
              all_goals
                go_wp2_with (first
                  | ((with_reducible refine load_cells (o := ⟨some 51, _, _, _, _, _⟩) rfl _ _ rfl x1 (o1 + k * 8) ?_ (Dd13.cells ⟨op, dN, dt, dc', ⟨ix, tm, kd, qa, qn, qc⟩⟩) _ X1.out Try.underlying36 rfl ?_ ?_); (focus go_simp); (focus (exact DS.out)))
                  | ((with_reducible refine alloc_row (o := ⟨some 14, _, _, _, _, _⟩) rfl _ rfl _ DZ.out ?_); intro w2 hr hb hz; have E2 := Lib.hid hr; have P2 := Lib.hid (HP.out.mono hb); have B2 := Lib.hid (HB.out.trans (hb.mono HB.out.size)); clear hr hb hz)
                  | ((with_reducible refine store_row (o := ⟨none, _, _, _, _, _⟩) rfl _ (.tmp 14) _ rfl wo.heap.size (Dd13.cells ⟨op, dN, dt, dc', ⟨ix, tm, kd, qa, qn, qc⟩⟩) ?_ ?_ 36 _ E2.out ?_ ?_ (d13_one _) ?_); (focus go_simp); (focus (first | (go_simp; done) | (go_simp; rfl))); (focus (exact DS.out)); (focus rfl); intro w3 hr hu; have RW3 := Lib.hid hr; obtain ⟨e0, e1, e2, e3, e4, e5, e6, e7⟩ := hr.q8; have P3 := Lib.hid (P2.out.ft (Ft.of_upd (F := fun x => x = wo.heap.size) hu rfl) (fun x hx => by rw [hx]; exact OLD.out _ (Nat.le_refl _))); have B3 := Lib.hid (B2.out.trans (hu.below HB.out.size)); have Z3 := Lib.hid (show wo.heap.size < w3.heap.size from hr.lt); clear hr hu)
                  | ((with_reducible refine load_cells (o := ⟨some 92, _, _, _, _, _⟩) rfl _ _ rfl wo.heap.size 4 ?_ (En.cells ⟨ix, tm, kd, qa, qn, qc⟩) _ ?_ Try.underlying34 rfl ?_ ?_); (focus go_simp); (focus (exact fun j u hj => by rw [RW3.out.cellV]; exact cells_in8 j u hj)); (focus (exact ES.out)))
                  | ((with_reducible refine alloc_row (o := ⟨some 16, _, _, _, _, _⟩) rfl _ rfl _ EZ.out ?_); intro w4 hr hb hz; have E4 := Lib.hid hr; have RW4 := Lib.hid (RW3.out.below hb RW3.out.lt); have P4' := Lib.hid (P3.out.mono hb); have B4' := Lib.hid (B3.out.trans (hb.mono B3.out.size)); clear hr hb hz)
                  | ((with_reducible refine store_row (o := ⟨none, _, _, _, _, _⟩) rfl _ (.tmp 16) _ rfl w3.heap.size (En.cells ⟨ix, tm, kd, qa, qn, qc⟩) ?_ ?_ 34 _ E4.out ?_ ?_ (cells_one _) ?_); (focus go_simp); (focus (first | (go_simp; done) | (go_simp; rfl))); (focus (exact ES.out)); (focus rfl); intro w5 hr hu; have E5 := Lib.hid hr; have RW5 := Lib.hid (RW4.out.upd hu (Nat.ne_of_lt Z3.out)); clear e0 e1 e2 e3 e4 e5 e6 e7; obtain ⟨e0, e1, e2, e3, e4, e5, e6, e7⟩ := RW5.out.q8; have P5' := Lib.hid (P4'.out.ft (Ft.of_upd (F := fun x => x = w3.heap.size) hu rfl) (fun x hx => by rw [hx]; exact OLD.out _ (Nat.le_of_lt Z3.out))); have B5' := Lib.hid (B4'.out.trans (hu.below B3.out.size)); have Z5 := Lib.hid (show w3.heap.size < w5.heap.size from hr.lt); clear hr hu)
                  | (go_at_call 13; (with_reducible refine (sclone qa qn qc l w5 ?_ HQM.out).mono ?_); (focus (exact FE.out.rd.mono B5'.out)); rintro x w6 ⟨v, rfl, hf, hb⟩; obtain ⟨ga, gc, hv, hrd, hrow⟩ := hf.row13 qn HLN.out; subst hv; have RD6 := Lib.hid hrd; have GR6 := Lib.hid hrow; have E6 := Lib.hid (E5.out.below hb E5.out.lt); have RW6 := Lib.hid (RW5.out.below hb RW5.out.lt); have P6 := Lib.hid (P5'.out.mono hb); have B6 := Lib.hid (B5'.out.trans (hb.mono B5'.out.size)); clear hf hb hrd hrow e0 e1 e2 e3 e4 e5 e6 e7; obtain ⟨e0, e1, e2, e3⟩ := E6.out.q4; have f3 := E6.out.frozen 3))
                have U7 := Upd.setCell w6 w3.heap.size 3 (.slice ga qn gc)
                have E7 : Hid (Row (w6.setCell ⟨w3.heap.size, 3, none⟩ (.slice ga qn gc)) w3.heap.size 34 (En.cells ⟨ix, tm, kd, ga, qn, gc⟩)) := Lib.hid (E6.out.setV 3 (.slice ga qn gc))
                have RW7 := Lib.hid (RW6.out.upd U7 (Nat.ne_of_lt Z3.out))
                have P7 := Lib.hid (P6.out.ft (Ft.of_upd (F := fun x => x = w3.heap.size) U7 rfl) (fun x hx => by rw [hx]; exact OLD.out _ (Nat.le_of_lt Z3.out)))
                have B7 := Lib.hid (B6.out.trans (U7.below B3.out.size))
                have RD7 := Lib.hid (RD6.out.put E6.out (NB_en _ _ _ _ _ _) U7)
                have GR7 : Hid (qn = 0 ∨ ∃ g cur, ga = some ⟨g, 0, none⟩ ∧ w5.heap.size ≤ g ∧ Row (w6.setCell ⟨w3.heap.size, 3, none⟩ (.slice ga qn gc)) g 5 cur ∧ qn ≤ cur.length) := Lib.hid (GR6.out.imp id (fun ⟨g, cur, h1, h2, h3, h4⟩ => ⟨g, cur, h1, h2, h3.upd U7 (by have := Z5.out; omega), h4⟩))
                clear e0 e1 e2 e3 f3 U7
                obtain ⟨w7, hw7⟩ : ∃ x, w6.setCell ⟨w3.heap.size, 3, none⟩ (.slice ga qn gc) = x := ⟨_, rfl⟩
                rw [hw7] at E7 RW7 P7 B7 RD7 GR7 ⊢
                clear hw7
                refine region_h (fun v => Ft (fun x => F x ∨ G x) w7 v) (by kernel_rfl) (by kernel_rfl) (Ft.of_below (Below.refl _ _).drew) ?_
                obtain ⟨v0, hv0⟩ : ∃ wd, w7.drew = wd := ⟨_, rfl⟩
                have K0 : Hid (Below w7.heap.size w7 v0) := Lib.hid (by rw [← hv0]; exact (Below.refl _ _).drew)
                rw [hv0]
                clear hv0
                have S0 : Hid (Ft (fun x => F x ∨ G x) w7 v0) := Lib.hid (Ft.of_below K0.out)
                have Pv0 := Lib.hid (P7.out.mono K0.out)
                have Bv0 := Lib.hid (B7.out.trans (K0.out.mono B7.out.size))
                (refine h_read 0 rfl (by kernel_rfl) (by kernel_rfl) (h_free rfl) ?_ ?_ ?_; rotate_left; (focus (intro v hv; go_simp; rfl)); go_simp)
                (refine h_read 1 rfl (by kernel_rfl) (by kernel_rfl) (h_free rfl) ?_ ?_ ?_; rotate_left; (focus (intro v hv; refine load_all 34 (.tmp 16) ?_ w3.heap.size ?_ _ (En.cells ⟨ix, tm, kd, ga, qn, gc⟩) _ (E7.out.ft hv (fun h => (OLD.out w3.heap.size (Nat.le_of_lt Z3.out)).elim (fun h1 h2 => h.elim h1 h2))) Try.underlying34 rfl en_size; (focus rfl); go_simp)); go_simp)
                (refine h_read 3 rfl (by kernel_rfl) (by kernel_rfl) (h_free rfl) ?_ ?_ ?_; rotate_left; (focus (intro v hv; go_simp; rfl)); go_simp)
                (refine h_read 4 rfl (by kernel_rfl) (by kernel_rfl) (h_free rfl) ?_ ?_ ?_; rotate_left; (focus (intro v hv; go_simp; rfl)); go_simp)
                (refine h_read 5 rfl (by kernel_rfl) (by kernel_rfl) (h_free rfl) ?_ ?_ ?_; rotate_left; (focus (intro v hv; refine run_cells 34 (.tmp 102) ?_ wo.heap.size 4 ?_ (En.cells ⟨ix, tm, kd, qa, qn, qc⟩) _ (fun j u hj => by rw [(RW7.out.ft hv (fun h => (OLD.out wo.heap.size (Nat.le_refl _)).elim (fun h1 h2 => h.elim h1 h2))).cellV]; exact cells_in8 j u hj) Try.underlying34 rfl en_size; (focus rfl); go_simp)); go_simp)
                (refine h_call 2 rfl (by kernel_rfl) (h_free rfl) 14 ?_ ?_ ?_; rotate_left; (focus (go_simp; rfl)))
                refine (pgappend Pv0.out ⟨ix, tm, kd, ga, qn, gc⟩ l ⟨FE.out.ix, FE.out.tm, FE.out.kd, RD7.out.mono K0.out⟩ HQL.out).mono ?_
                rintro x v1 ⟨rfl, ⟨F1, hP, hN1⟩, hft⟩
                have NF1 := Lib.hid hN1
                have Sv1 := Lib.hid hft.size
                have Pv1 := Lib.hid hP
                have S1 := Lib.hid (S0.out.trans (hft.mono (fun k hk => .inl hk)))
                have Bv1 := Lib.hid (Bv0.out.trans (hft.below Bv0.out.size Pv0.out.fb))
                clear hP hft hN1
                refine ⟨_, rfl, S1.out, ?_⟩
                go_simp
                (refine h_call 6 rfl (by kernel_rfl) (h_free rfl) 15 ?_ ?_ ?_; rotate_left; (focus (go_simp; rfl)))
                refine (pxappend Pv1.out ⟨ix, tm, kd, qa, qn, qc⟩ l (FE.out.mono Bv1.out) HQL.out).mono ?_
                rintro x v2 ⟨rfl, ⟨G1, hP, hN2⟩, hft⟩
                have NG1 := Lib.hid hN2
                have Pv2 := Lib.hid hP
                have S2 := Lib.hid (S1.out.trans (hft.mono (fun k hk => .inr hk)))
                have Bv2 := Lib.hid (Bv1.out.trans (hft.below Bv1.out.size Pv1.out.gb))
                clear hP hft hN2
                refine ⟨_, rfl, S2.out, ?_⟩
                go_simp
                (refine h_read 7 rfl (by kernel_rfl) (by kernel_rfl) (h_free rfl) ?_ ?_ ?_; rotate_left; (focus (intro v hv; go_simp; rfl)); go_simp)
                (refine h_read 8 rfl (by kernel_rfl) (by kernel_rfl) (h_free rfl) ?_ ?_ ?_; rotate_left; (focus (intro v hv; go_simp; rfl)); go_simp)
                refine h_done (by kernel_rfl) ?_
                have RWv := Lib.hid (RW7.out.ft S2.out (fun h => (OLD.out wo.heap.size (Nat.le_refl _)).elim (fun h1 h2 => h.elim h1 h2)))
                have Ev := Lib.hid (E7.out.ft S2.out (fun h => (OLD.out w3.heap.size (Nat.le_of_lt Z3.out)).elim (fun h1 h2 => h.elim h1 h2)))
                have GRv : Hid (qn = 0 ∨ ∃ g, ga = some ⟨g, 0, none⟩ ∧ w5.heap.size ≤ g ∧ (¬ F1 g ∧ ¬ G1 g) ∧ ∃ cur, Row v2 g 5 cur ∧ qn ≤ cur.length) := Lib.hid (GR7.out.imp id (fun ⟨g, cur, h1, h2, h3, h4⟩ => ⟨g, h1, h2, ⟨fun h9 => (NF1.out g h9).elim (OLD.out g (by have := Z3.out; have := Z5.out; omega)).1 (fun h8 => absurd h3.lt (Nat.not_lt.2 (Nat.le_trans K0.out.size h8))), fun h9 => (NG1.out g h9).elim (OLD.out g (by have := Z3.out; have := Z5.out; omega)).2 (fun h8 => absurd h3.lt (Nat.not_lt.2 (Nat.le_trans K0.out.size (Nat.le_trans Sv1.out h8))))⟩, cur, h3.ft S2.out (fun h => (OLD.out g (by have := Z3.out; have := Z5.out; omega)).elim (fun h1 h2 => h.elim h1 h2)), h4⟩))
                obtain ⟨e0, e1, e2, e3⟩ := Ev.out.q4
                go_wp2_with fail
                go_loopw [109] (fun iv wr => ∃ (j : Nat), iv = .int .i64 (j : Int) ∧ j ≤ qn ∧ Hid (PR (q.app (pe (⟨ix, tm, kd, qa, qn, qc⟩, l))).1 (q.app (pe (⟨ix, tm, kd, qa, qn, qc⟩, l))).1 wr p p' F1 G1 w.heap.size) ∧ Hid (Row wr wo.heap.size 36 (Dd13.cells ⟨op, dN, dt, dc', ⟨ix, tm, kd, qa, qn, qc⟩⟩)) ∧ Hid (Row wr w3.heap.size 34 (En.cells ⟨ix, tm, kd, ga, qn, gc⟩)) ∧ Hid (qn = 0 ∨ ∃ g, ga = some ⟨g, 0, none⟩ ∧ w5.heap.size ≤ g ∧ (¬ F1 g ∧ ¬ G1 g) ∧ ∃ cur, Row wr g 5 cur ∧ qn ≤ cur.length) ∧ Hid (Below w.heap.size w wr)) (fun iv _ => qn - (intOf iv).toNat)
                case atStart => exact ⟨0, rfl, Nat.zero_le _, Pv2, RWv, Ev, GRv, Bv2⟩
                case round =>
                  obtain ⟨j, rfl, hj, HPj, HRW, HEj, HGj, HBj⟩ := hrel
                  obtain ⟨e0, e1, e2, e3⟩ := HEj.out.q4
                  by_cases hjl : j < qn
                  · obtain ⟨g, rfl, hg5, hgn, cur, hcr, hcl⟩ := HGj.out.resolve_left (by omega)
                    have hcj : wr.cell? ⟨g, j, none⟩ = some (cur[j]'(by omega)) := by rw [hcr.cellV]; simp [show j < cur.length by omega]
                    have fz := hcr.frozen j
                    have s1 : (0 : Int) ≤ (j : Int) := by omega
                    have s2 : (j : Int) < (qn : Int) := by omega
                    have HCR := Lib.hid hcr
                    obtain ⟨oldc, hold⟩ : ∃ x, (cur[j]'(by omega)) = x := ⟨_, rfl⟩
                    rw [hold] at hcj
                    clear hcr hold
                    go_wp2_with fail
                    have U9 := Upd.setCell wr g j (.int .u8 255)
                    go_roundw
                    case rel => exact ⟨j + 1, vint (by omega), by omega, Lib.hid (HPj.out.ft (Ft.of_upd (F := fun x => x = g) U9 rfl) (fun x hx => by rw [hx]; exact hgn)), Lib.hid (HRW.out.upd U9 (by have := Z3.out; have := Z5.out; omega)), Lib.hid (HEj.out.upd U9 (by have := Z5.out; omega)), Lib.hid (.inr ⟨g, rfl, hg5, hgn, _, HCR.out.setV j (.int .u8 255), by simpa using hcl⟩), Lib.hid (HBj.out.trans (U9.below (by have := Z3.out; have := Z5.out; have := HB.out.size; omega)))⟩
                    case measure => (simp [intOf]; try omega)
                  · obtain rfl : j = qn := by omega
                    obtain ⟨o0, o1', o2, o3, o4, o5, o6, o7⟩ := HRW.out.q8
                    go_wp2_with (first
                      | (go_at_call 12; (with_reducible refine (lsame HPj.out dN (by have := LS.app_len q (pe (⟨ix, tm, kd, qa, j, qc⟩, l)); have := HN1.out; omega)).mono ?_); rintro x w20 ⟨rfl, hb⟩; have P20 := Lib.hid (HPj.out.mono hb); have B20 := Lib.hid (HBj.out.trans (hb.mono HBj.out.size)); clear hb))
                    go_roundw
                    case rel => exact ⟨k + 1, (q.app (pe (⟨ix, tm, kd, qa, j, qc⟩, l))).1, _, _, vint (by omega), by omega, by omega, P20, Lib.hid ⟨by have := LS.app_len q (pe (⟨ix, tm, kd, qa, j, qc⟩, l)); have := HN1.out; omega, by have := app_last q (pe (⟨ix, tm, kd, qa, j, qc⟩, l)); have := HN2.out; omega⟩, B20⟩
                    case measure => (simp [intOf]; try omega)
            have u0 : (op == 0) = false := by simp; omega
            have u1 : (op == 1) = false := by simp; omega
            have u2 : (op == 2) = false := by simp; omega
            by_cases c3 : op = 3
            · subst c3
              go_wp2_with (first
                | ((with_reducible refine load_cells (o := ⟨some 51, _, _, _, _, _⟩) rfl _ _ rfl x1 (o1 + k * 8) ?_ (Dd13.cells ⟨3, dN, dt, dc', ⟨ix, tm, kd, qa, qn, qc⟩⟩) _ X1.out Try.underlying36 rfl ?_ ?_); (focus go_simp); (focus (exact DS.out)))
                | ((with_reducible refine alloc_row (o := ⟨some 14, _, _, _, _, _⟩) rfl _ rfl _ DZ.out ?_); intro w2 hr hb hz; have E2 := Lib.hid hr; have P2 := Lib.hid (HP.out.mono hb); have B2 := Lib.hid (HB.out.trans (hb.mono HB.out.size)); clear hr hb hz)
                | ((with_reducible refine store_row (o := ⟨none, _, _, _, _, _⟩) rfl _ (.tmp 14) _ rfl wo.heap.size (Dd13.cells ⟨3, dN, dt, dc', ⟨ix, tm, kd, qa, qn, qc⟩⟩) ?_ ?_ 36 _ E2.out ?_ ?_ (d13_one _) ?_); (focus go_simp); (focus (first | (go_simp; done) | (go_simp; rfl))); (focus (exact DS.out)); (focus rfl); intro w3 hr hu; have RW3 := Lib.hid hr; obtain ⟨e0, e1, e2, e3, e4, e5, e6, e7⟩ := hr.q8; have P3 := Lib.hid (P2.out.ft (Ft.of_upd (F := fun x => x = wo.heap.size) hu rfl) (fun x hx => by rw [hx]; exact OLD.out _ (Nat.le_refl _))); have B3 := Lib.hid (B2.out.trans (hu.below HB.out.size)); have Z3 := Lib.hid (show wo.heap.size < w3.heap.size from hr.lt); clear hr hu))
              refine region_h (fun v => Ft (fun x => F x ∨ G x) w3 v) (by kernel_rfl) (by kernel_rfl) (Ft.of_below (Below.refl _ _).drew) ?_
              obtain ⟨v0, hv0⟩ : ∃ wd, w3.drew = wd := ⟨_, rfl⟩
              have K0 : Hid (Below w3.heap.size w3 v0) := Lib.hid (by rw [← hv0]; exact (Below.refl _ _).drew)
              rw [hv0]
              clear hv0
              have S0 : Hid (Ft (fun x => F x ∨ G x) w3 v0) := Lib.hid (Ft.of_below K0.out)
              have Pv0 := Lib.hid (P3.out.mono K0.out)
              have Bv0 := Lib.hid (B3.out.trans (K0.out.mono B3.out.size))
              (refine h_read 0 rfl (by kernel_rfl) (by kernel_rfl) (h_free rfl) ?_ ?_ ?_; rotate_left; (focus (intro v hv; go_simp; rfl)); go_simp)
              (refine h_read 1 rfl (by kernel_rfl) (by kernel_rfl) (h_free rfl) ?_ ?_ ?_; rotate_left; (focus (intro v hv; go_simp; rfl)); go_simp)
              (refine h_read 2 rfl (by kernel_rfl) (by kernel_rfl) (h_free rfl) ?_ ?_ ?_; rotate_left; (focus (intro v hv; obtain ⟨e0, e1, e2, e3, e4, e5, e6, e7⟩ := (RW3.out.ft hv (fun h => (OLD.out wo.heap.size (Nat.le_refl _)).elim (fun h1 h2 => h.elim h1 h2))).q8; go_simp; rfl)); go_simp)
              (refine h_read 4 rfl (by kernel_rfl) (by kernel_rfl) (h_free rfl) ?_ ?_ ?_; rotate_left; (focus (intro v hv; go_simp; rfl)); go_simp)
              (refine h_read 5 rfl (by kernel_rfl) (by kernel_rfl) (h_free rfl) ?_ ?_ ?_; rotate_left; (focus (intro v hv; go_simp; rfl)); go_simp)
              (refine h_read 6 rfl (by kernel_rfl) (by kernel_rfl) (h_free rfl) ?_ ?_ ?_; rotate_left; (focus (intro v hv; obtain ⟨e0, e1, e2, e3, e4, e5, e6, e7⟩ := (RW3.out.ft hv (fun h => (OLD.out wo.heap.size (Nat.le_refl _)).elim (fun h1 h2 => h.elim h1 h2))).q8; go_simp; rfl)); go_simp)
              (refine h_call 3 rfl (by kernel_rfl) (h_free rfl) 16 ?_ ?_ ?_; rotate_left; (focus (go_simp; rfl)))
              refine (pgcut Pv0.out dN).mono ?_
              rintro x v1 ⟨rfl, ⟨F1, hP⟩, hft⟩
              have Pv1 := Lib.hid hP
              have S1 := Lib.hid (S0.out.trans (hft.mono (fun k hk => .inl hk)))
              have Bv1 := Lib.hid (Bv0.out.trans (hft.below Bv0.out.size Pv0.out.fb))
              clear hP hft
              refine ⟨_, rfl, S1.out, ?_⟩
              go_simp
              (refine h_call 7 rfl (by kernel_rfl) (h_free rfl) 17 ?_ ?_ ?_; rotate_left; (focus (go_simp; rfl)))
              refine (pxcut Pv1.out dN).mono ?_
              rintro x v2 ⟨rfl, ⟨G1, hP⟩, hft⟩
              have Pv2 := Lib.hid hP
              have S2 := Lib.hid (S1.out.trans (hft.mono (fun k hk => .inr hk)))
              have Bv2 := Lib.hid (Bv1.out.trans (hft.below Bv1.out.size Pv1.out.gb))
              clear hP hft
              refine ⟨_, rfl, S2.out, ?_⟩
              go_simp
              (refine h_read 8 rfl (by kernel_rfl) (by kernel_rfl) (h_free rfl) ?_ ?_ ?_; rotate_left; (focus (intro v hv; go_simp; rfl)); go_simp)
              (refine h_read 9 rfl (by kernel_rfl) (by kernel_rfl) (h_free rfl) ?_ ?_ ?_; rotate_left; (focus (intro v hv; go_simp; rfl)); go_simp)
              refine h_done (by kernel_rfl) ?_
              obtain ⟨e0, e1, e2, e3, e4, e5, e6, e7⟩ := (RW3.out.ft S2.out (fun h => (OLD.out wo.heap.size (Nat.le_refl _)).elim (fun h1 h2 => h.elim h1 h2))).q8
              go_wp2_with (first
                | (go_at_call 12; (with_reducible refine (lsame Pv2.out dN (by have := (cut_grow q dN).2; have := HN1.out; omega)).mono ?_); rintro x w20 ⟨rfl, hb⟩; have P20 := Lib.hid (Pv2.out.mono hb); have B20 := Lib.hid (Bv2.out.trans (hb.mono Bv2.out.size)); clear hb))
              go_roundw
              case rel => exact ⟨k + 1, (q.cut dN).1, _, _, vint (by omega), by omega, by omega, P20, Lib.hid ⟨by have := (cut_grow q dN).2; have := HN1.out; omega, by have := (cut_grow q dN).1; have := HN2.out; omega⟩, B20⟩
              case measure => (simp [intOf]; try omega)
            have u3 : (op == 3) = false := by simpa using c3
            by_cases c4 : op = 4
            · subst c4
              go_wp2_with (first
                | ((with_reducible refine load_cells (o := ⟨some 51, _, _, _, _, _⟩) rfl _ _ rfl x1 (o1 + k * 8) ?_ (Dd13.cells ⟨4, dN, dt, dc', ⟨ix, tm, kd, qa, qn, qc⟩⟩) _ X1.out Try.underlying36 rfl ?_ ?_); (focus go_simp); (focus (exact DS.out)))
                | ((with_reducible refine alloc_row (o := ⟨some 14, _, _, _, _, _⟩) rfl _ rfl _ DZ.out ?_); intro w2 hr hb hz; have E2 := Lib.hid hr; have P2 := Lib.hid (HP.out.mono hb); have B2 := Lib.hid (HB.out.trans (hb.mono HB.out.size)); clear hr hb hz)
                | ((with_reducible refine store_row (o := ⟨none, _, _, _, _, _⟩) rfl _ (.tmp 14) _ rfl wo.heap.size (Dd13.cells ⟨4, dN, dt, dc', ⟨ix, tm, kd, qa, qn, qc⟩⟩) ?_ ?_ 36 _ E2.out ?_ ?_ (d13_one _) ?_); (focus go_simp); (focus (first | (go_simp; done) | (go_simp; rfl))); (focus (exact DS.out)); (focus rfl); intro w3 hr hu; have RW3 := Lib.hid hr; obtain ⟨e0, e1, e2, e3, e4, e5, e6, e7⟩ := hr.q8; have P3 := Lib.hid (P2.out.ft (Ft.of_upd (F := fun x => x = wo.heap.size) hu rfl) (fun x hx => by rw [hx]; exact OLD.out _ (Nat.le_refl _))); have B3 := Lib.hid (B2.out.trans (hu.below HB.out.size)); have Z3 := Lib.hid (show wo.heap.size < w3.heap.size from hr.lt); clear hr hu))
              refine region_h (fun v => Ft (fun x => F x ∨ G x) w3 v) (by kernel_rfl) (by kernel_rfl) (Ft.of_below (Below.refl _ _).drew) ?_
              obtain ⟨v0, hv0⟩ : ∃ wd, w3.drew = wd := ⟨_, rfl⟩
              have K0 : Hid (Below w3.heap.size w3 v0) := Lib.hid (by rw [← hv0]; exact (Below.refl _ _).drew)
              rw [hv0]
              clear hv0
              have S0 : Hid (Ft (fun x => F x ∨ G x) w3 v0) := Lib.hid (Ft.of_below K0.out)
              have Pv0 := Lib.hid (P3.out.mono K0.out)
              have Bv0 := Lib.hid (B3.out.trans (K0.out.mono B3.out.size))
              (refine h_read 0 rfl (by kernel_rfl) (by kernel_rfl) (h_free rfl) ?_ ?_ ?_; rotate_left; (focus (intro v hv; go_simp; rfl)); go_simp)
              (refine h_read 1 rfl (by kernel_rfl) (by kernel_rfl) (h_free rfl) ?_ ?_ ?_; rotate_left; (focus (intro v hv; go_simp; rfl)); go_simp)
              (refine h_read 2 rfl (by kernel_rfl) (by kernel_rfl) (h_free rfl) ?_ ?_ ?_; rotate_left; (focus (intro v hv; obtain ⟨e0, e1, e2, e3, e4, e5, e6, e7⟩ := (RW3.out.ft hv (fun h => (OLD.out wo.heap.size (Nat.le_refl _)).elim (fun h1 h2 => h.elim h1 h2))).q8; go_simp; rfl)); go_simp)
              (refine h_read 4 rfl (by kernel_rfl) (by kernel_rfl) (h_free rfl) ?_ ?_ ?_; rotate_left; (focus (intro v hv; go_simp; rfl)); go_simp)
              (refine h_read 5 rfl (by kernel_rfl) (by kernel_rfl) (h_free rfl) ?_ ?_ ?_; rotate_left; (focus (intro v hv; go_simp; rfl)); go_simp)
              (refine h_read 6 rfl (by kernel_rfl) (by kernel_rfl) (h_free rfl) ?_ ?_ ?_; rotate_left; (focus (intro v hv; obtain ⟨e0, e1, e2, e3, e4, e5, e6, e7⟩ := (RW3.out.ft hv (fun h => (OLD.out wo.heap.size (Nat.le_refl _)).elim (fun h1 h2 => h.elim h1 h2))).q8; go_simp; rfl)); go_simp)
              (refine h_call 3 rfl (by kernel_rfl) (h_free rfl) 18 ?_ ?_ ?_; rotate_left; (focus (go_simp; rfl)))
              refine (pgcompact Pv0.out dN HQ4.out).mono ?_
              rintro x v1 ⟨rfl, ⟨F1, hP⟩, hft⟩
              have Pv1 := Lib.hid hP
              have S1 := Lib.hid (S0.out.trans (hft.mono (fun k hk => .inl hk)))
              have Bv1 := Lib.hid (Bv0.out.trans (hft.below Bv0.out.size Pv0.out.fb))
              clear hP hft
              refine ⟨_, rfl, S1.out, ?_⟩
              go_simp
              (refine h_call 7 rfl (by kernel_rfl) (h_free rfl) 19 ?_ ?_ ?_; rotate_left; (focus (go_simp; rfl)))
              refine (pxcompact Pv1.out dN WN.out HQ4.out).mono ?_
              rintro x v2 ⟨rfl, ⟨G1, hP⟩, hft⟩
              have Pv2 := Lib.hid hP
              have S2 := Lib.hid (S1.out.trans (hft.mono (fun k hk => .inr hk)))
              have Bv2 := Lib.hid (Bv1.out.trans (hft.below Bv1.out.size Pv1.out.gb))
              clear hP hft
              refine ⟨_, rfl, S2.out, ?_⟩
              go_simp
              (refine h_read 8 rfl (by kernel_rfl) (by kernel_rfl) (h_free rfl) ?_ ?_ ?_; rotate_left; (focus (intro v hv; go_simp; rfl)); go_simp)
              (refine h_read 9 rfl (by kernel_rfl) (by kernel_rfl) (h_free rfl) ?_ ?_ ?_; rotate_left; (focus (intro v hv; go_simp; rfl)); go_simp)
              refine h_done (by kernel_rfl) ?_
              obtain ⟨e0, e1, e2, e3, e4, e5, e6, e7⟩ := (RW3.out.ft S2.out (fun h => (OLD.out wo.heap.size (Nat.le_refl _)).elim (fun h1 h2 => h.elim h1 h2))).q8
              go_wp2_with (first
                | (go_at_call 12; (with_reducible refine (lsame Pv2.out dN (by have := (compact_grow HP.out.g.ok dN HQ4.out).2; have := HN1.out; omega)).mono ?_); rintro x w20 ⟨rfl, hb⟩; have P20 := Lib.hid (Pv2.out.mono hb); have B20 := Lib.hid (Bv2.out.trans (hb.mono Bv2.out.size)); clear hb))
              go_roundw
              case rel => exact ⟨k + 1, (q.compact dN).1, _, _, vint (by omega), by omega, by omega, P20, Lib.hid ⟨by have := (compact_grow HP.out.g.ok dN HQ4.out).2; have := HN1.out; omega, by have := (compact_grow HP.out.g.ok dN HQ4.out).1; have := HN2.out; omega⟩, B20⟩
              case measure => (simp [intOf]; try omega)
            have u4 : (op == 4) = false := by simpa using c4
            by_cases c5 : op = 5
            · subst c5
              go_wp2_with (first
                | ((with_reducible refine load_cells (o := ⟨some 51, _, _, _, _, _⟩) rfl _ _ rfl x1 (o1 + k * 8) ?_ (Dd13.cells ⟨5, dN, dt, dc', ⟨ix, tm, kd, qa, qn, qc⟩⟩) _ X1.out Try.underlying36 rfl ?_ ?_); (focus go_simp); (focus (exact DS.out)))
                | ((with_reducible refine alloc_row (o := ⟨some 14, _, _, _, _, _⟩) rfl _ rfl _ DZ.out ?_); intro w2 hr hb hz; have E2 := Lib.hid hr; have P2 := Lib.hid (HP.out.mono hb); have B2 := Lib.hid (HB.out.trans (hb.mono HB.out.size)); clear hr hb hz)
                | ((with_reducible refine store_row (o := ⟨none, _, _, _, _, _⟩) rfl _ (.tmp 14) _ rfl wo.heap.size (Dd13.cells ⟨5, dN, dt, dc', ⟨ix, tm, kd, qa, qn, qc⟩⟩) ?_ ?_ 36 _ E2.out ?_ ?_ (d13_one _) ?_); (focus go_simp); (focus (first | (go_simp; done) | (go_simp; rfl))); (focus (exact DS.out)); (focus rfl); intro w3 hr hu; have RW3 := Lib.hid hr; obtain ⟨e0, e1, e2, e3, e4, e5, e6, e7⟩ := hr.q8; have P3 := Lib.hid (P2.out.ft (Ft.of_upd (F := fun x => x = wo.heap.size) hu rfl) (fun x hx => by rw [hx]; exact OLD.out _ (Nat.le_refl _))); have B3 := Lib.hid (B2.out.trans (hu.below HB.out.size)); have Z3 := Lib.hid (show wo.heap.size < w3.heap.size from hr.lt); clear hr hu))
              refine region_h (fun v => Ft (fun x => F x ∨ G x) w3 v) (by kernel_rfl) (by kernel_rfl) (Ft.of_below (Below.refl _ _).drew) ?_
              obtain ⟨v0, hv0⟩ : ∃ wd, w3.drew = wd := ⟨_, rfl⟩
              have K0 : Hid (Below w3.heap.size w3 v0) := Lib.hid (by rw [← hv0]; exact (Below.refl _ _).drew)
              rw [hv0]
              clear hv0
              have S0 : Hid (Ft (fun x => F x ∨ G x) w3 v0) := Lib.hid (Ft.of_below K0.out)
              have Pv0 := Lib.hid (P3.out.mono K0.out)
              have Bv0 := Lib.hid (B3.out.trans (K0.out.mono B3.out.size))
              (refine h_read 0 rfl (by kernel_rfl) (by kernel_rfl) (h_free rfl) ?_ ?_ ?_; rotate_left; (focus (intro v hv; go_simp; rfl)); go_simp)
              (refine h_read 1 rfl (by kernel_rfl) (by kernel_rfl) (h_free rfl) ?_ ?_ ?_; rotate_left; (focus (intro v hv; go_simp; rfl)); go_simp)
              (refine h_read 2 rfl (by kernel_rfl) (by kernel_rfl) (h_free rfl) ?_ ?_ ?_; rotate_left; (focus (intro v hv; obtain ⟨e0, e1, e2, e3, e4, e5, e6, e7⟩ := (RW3.out.ft hv (fun h => (OLD.out wo.heap.size (Nat.le_refl _)).elim (fun h1 h2 => h.elim h1 h2))).q8; go_simp; rfl)); go_simp)
              (refine h_read 4 rfl (by kernel_rfl) (by kernel_rfl) (h_free rfl) ?_ ?_ ?_; rotate_left; (focus (intro v hv; go_simp; rfl)); go_simp)
              (refine h_read 5 rfl (by kernel_rfl) (by kernel_rfl) (h_free rfl) ?_ ?_ ?_; rotate_left; (focus (intro v hv; obtain ⟨e0, e1, e2, e3, e4, e5, e6, e7⟩ := (RW3.out.ft hv (fun h => (OLD.out wo.heap.size (Nat.le_refl _)).elim (fun h1 h2 => h.elim h1 h2))).q8; go_simp; rfl)); go_simp)
              (refine h_read 6 rfl (by kernel_rfl) (by kernel_rfl) (h_free rfl) ?_ ?_ ?_; rotate_left; (focus (intro v hv; go_simp; rfl)); go_simp)
              (refine h_read 7 rfl (by kernel_rfl) (by kernel_rfl) (h_free rfl) ?_ ?_ ?_; rotate_left; (focus (intro v hv; obtain ⟨e0, e1, e2, e3, e4, e5, e6, e7⟩ := (RW3.out.ft hv (fun h => (OLD.out wo.heap.size (Nat.le_refl _)).elim (fun h1 h2 => h.elim h1 h2))).q8; go_simp; rfl)); go_simp)
              (refine h_call 3 rfl (by kernel_rfl) (h_free rfl) 9 ?_ ?_ ?_; rotate_left; (focus (go_simp; rfl)))
              refine (lat dN v0).mono ?_
              rintro x v9 ⟨rfl, rfl⟩
              refine ⟨_, rfl, S0.out, ?_⟩
              go_simp
              (refine h_call 8 rfl (by kernel_rfl) (h_free rfl) 20 ?_ ?_ ?_; rotate_left; (focus (go_simp; rfl)))
              refine (pgreset Pv0.out (atV dN) dt dc' (by have := atV_le dN; omega)).mono ?_
              rintro x v1 ⟨⟨rv, rfl⟩, ⟨F1, hP⟩, hft⟩
              have Pv1 := Lib.hid hP
              have S1 := Lib.hid (S0.out.trans (hft.mono (fun k hk => .inl hk)))
              have Bv1 := Lib.hid (Bv0.out.trans (hft.below Bv0.out.size Pv0.out.fb))
              clear hP hft
              refine ⟨_, rfl, S1.out, ?_⟩
              go_simp
              refine h_done (by kernel_rfl) ?_
              go_wp2_with fail
              refine region_h (fun v => Ft (fun x => F x ∨ G x) v1 v) (by kernel_rfl) (by kernel_rfl) (Ft.of_below (Below.refl _ _).drew) ?_
              obtain ⟨u0', hv0⟩ : ∃ wd, v1.drew = wd := ⟨_, rfl⟩
              have K1 : Hid (Below v1.heap.size v1 u0') := Lib.hid (by rw [← hv0]; exact (Below.refl _ _).drew)
              rw [hv0]
              clear hv0
              have T0 : Hid (Ft (fun x => F x ∨ G x) v1 u0') := Lib.hid (Ft.of_below K1.out)
              have Pu0 := Lib.hid (Pv1.out.mono K1.out)
              have Bu0 := Lib.hid (Bv1.out.trans (K1.out.mono Bv1.out.size))
              (refine h_read 0 rfl (by kernel_rfl) (by kernel_rfl) (h_free rfl) ?_ ?_ ?_; rotate_left; (focus (intro v hv; go_simp; rfl)); go_simp)
              (refine h_read 1 rfl (by kernel_rfl) (by kernel_rfl) (h_free rfl) ?_ ?_ ?_; rotate_left; (focus (intro v hv; go_simp; rfl)); go_simp)
              (refine h_read 2 rfl (by kernel_rfl) (by kernel_rfl) (h_free rfl) ?_ ?_ ?_; rotate_left; (focus (intro v hv; obtain ⟨e0, e1, e2, e3, e4, e5, e6, e7⟩ := (RW3.out.ft (S1.out.trans hv) (fun h => (OLD.out wo.heap.size (Nat.le_refl _)).elim (fun h1 h2 => h.elim h1 h2))).q8; go_simp; rfl)); go_simp)
              (refine h_read 4 rfl (by kernel_rfl) (by kernel_rfl) (h_free rfl) ?_ ?_ ?_; rotate_left; (focus (intro v hv; go_simp; rfl)); go_simp)
              (refine h_read 5 rfl (by kernel_rfl) (by kernel_rfl) (h_free rfl) ?_ ?_ ?_; rotate_left; (focus (intro v hv; obtain ⟨e0, e1, e2, e3, e4, e5, e6, e7⟩ := (RW3.out.ft (S1.out.trans hv) (fun h => (OLD.out wo.heap.size (Nat.le_refl _)).elim (fun h1 h2 => h.elim h1 h2))).q8; go_simp; rfl)); go_simp)
              (refine h_read 6 rfl (by kernel_rfl) (by kernel_rfl) (h_free rfl) ?_ ?_ ?_; rotate_left; (focus (intro v hv; go_simp; rfl)); go_simp)
              (refine h_read 7 rfl (by kernel_rfl) (by kernel_rfl) (h_free rfl) ?_ ?_ ?_; rotate_left; (focus (intro v hv; obtain ⟨e0, e1, e2, e3, e4, e5, e6, e7⟩ := (RW3.out.ft (S1.out.trans hv) (fun h => (OLD.out wo.heap.size (Nat.le_refl _)).elim (fun h1 h2 => h.elim h1 h2))).q8; go_simp; rfl)); go_simp)
              (refine h_call 3 rfl (by kernel_rfl) (h_free rfl) 9 ?_ ?_ ?_; rotate_left; (focus (go_simp; rfl)))
              refine (lat dN u0').mono ?_
              rintro x v9 ⟨rfl, rfl⟩
              refine ⟨_, rfl, T0.out, ?_⟩
              go_simp
              (refine h_call 8 rfl (by kernel_rfl) (h_free rfl) 21 ?_ ?_ ?_; rotate_left; (focus (go_simp; rfl)))
              refine (pxreset Pu0.out (atV dN) dt dc' (by have := atV_le dN; omega)).mono ?_
              rintro x v2 ⟨⟨rv2, rfl⟩, ⟨G1, hP⟩, hft⟩
              have Pv2 := Lib.hid hP
              have T1 := Lib.hid (T0.out.trans (hft.mono (fun k hk => .inr hk)))
              have S2 := Lib.hid (S1.out.trans T1.out)
              have Bv2 := Lib.hid (Bu0.out.trans (hft.below Bu0.out.size Pu0.out.gb))
              clear hP hft
              refine ⟨_, rfl, T1.out, ?_⟩
              go_simp
              refine h_done (by kernel_rfl) ?_
              obtain ⟨e0, e1, e2, e3, e4, e5, e6, e7⟩ := (RW3.out.ft S2.out (fun h => (OLD.out wo.heap.size (Nat.le_refl _)).elim (fun h1 h2 => h.elim h1 h2))).q8
              go_wp2_with (first
                | (go_at_call 12; (with_reducible refine (lsame Pv2.out dN (Nat.zero_le _)).mono ?_); rintro x w20 ⟨rfl, hb⟩; have P20 := Lib.hid (Pv2.out.mono hb); have B20 := Lib.hid (Bv2.out.trans (hb.mono Bv2.out.size)); clear hb))
              go_roundw
              case rel => exact ⟨k + 1, ⟨atV dN, dt, dc', []⟩, _, _, vint (by omega), by omega, by omega, P20, Lib.hid ⟨Nat.zero_le _, by have := atV_le dN; show atV dN + ((0 : Nat) : Int) ≤ _; omega⟩, B20⟩
              case measure => (simp [intOf]; try omega)
            have u5 : (op == 5) = false := by simpa using c5
            go_wp2_with (first
              | ((with_reducible refine load_cells (o := ⟨some 51, _, _, _, _, _⟩) rfl _ _ rfl x1 (o1 + k * 8) ?_ (Dd13.cells ⟨op, dN, dt, dc', ⟨ix, tm, kd, qa, qn, qc⟩⟩) _ X1.out Try.underlying36 rfl ?_ ?_); (focus go_simp); (focus (exact DS.out)))
              | ((with_reducible refine alloc_row (o := ⟨some 14, _, _, _, _, _⟩) rfl _ rfl _ DZ.out ?_); intro w2 hr hb hz; have E2 := Lib.hid hr; have P2 := Lib.hid (HP.out.mono hb); have B2 := Lib.hid (HB.out.trans (hb.mono HB.out.size)); clear hr hb hz)
              | ((with_reducible refine store_row (o := ⟨none, _, _, _, _, _⟩) rfl _ (.tmp 14) _ rfl wo.heap.size (Dd13.cells ⟨op, dN, dt, dc', ⟨ix, tm, kd, qa, qn, qc⟩⟩) ?_ ?_ 36 _ E2.out ?_ ?_ (d13_one _) ?_); (focus go_simp); (focus (first | (go_simp; done) | (go_simp; rfl))); (focus (exact DS.out)); (focus rfl); intro w3 hr hu; have RW3 := Lib.hid hr; obtain ⟨e0, e1, e2, e3, e4, e5, e6, e7⟩ := hr.q8; have P3 := Lib.hid (P2.out.ft (Ft.of_upd (F := fun x => x = wo.heap.size) hu rfl) (fun x hx => by rw [hx]; exact OLD.out _ (Nat.le_refl _))); have B3 := Lib.hid (B2.out.trans (hu.below HB.out.size)); have Z3 := Lib.hid (show wo.heap.size < w3.heap.size from hr.lt); clear hr hu)
              | (go_at_call 22; (with_reducible refine (qfrom P3.out.g dN dt WT.out).mono ?_); rintro x w4 ⟨ga, gn, gc, R1, rfl, hfre, hRe, hb⟩; have FR4 := Lib.hid hfre; have RE1 := Lib.hid hRe; have P4' := Lib.hid (P3.out.mono hb); have RW4 := Lib.hid (RW3.out.below hb RW3.out.lt); have B4' := Lib.hid (B3.out.trans (hb.mono B3.out.size)); clear hfre hRe hb; clear e0 e1 e2 e3 e4 e5 e6 e7; obtain ⟨e0, e1, e2, e3, e4, e5, e6, e7⟩ := RW4.out.q8)
              | (go_at_call 24; (with_reducible refine (yfrom P4'.out.x dN dt WN.out).mono ?_); rintro x w5 ⟨ya, yn, yc, R2, rfl, hfre, hRe, hb⟩; have FR5 := Lib.hid hfre; have FR45 := Lib.hid (FR4.out.mono hb); have RE2 := Lib.hid hRe; have P5' := Lib.hid (P4'.out.mono hb); have RW5 := Lib.hid (RW4.out.below hb RW4.out.lt); have B5' := Lib.hid (B4'.out.trans (hb.mono B4'.out.size)); have GN := Lib.hid (show gn ≤ 1000000 by have h1 := from_len HP.out.g.ok dN dt; have h2 := FR4.out.len; have h3 : R1.length = (q.from dN dt).length := (by rw [← RE1.out, List.length_map]); omega); clear hfre hRe hb)
              | (go_at_call 23; (with_reducible refine (lequal ga ya gn gc yn yc R1 R2 w5 FR45.out.ents FR5.out.ents GN.out).mono ?_); rw [RE1.out, RE2.out, decide_eq_true rfl]; rintro x w6 ⟨rfl, hb⟩; have FR6 := Lib.hid (FR45.out.mono hb); have P6 := Lib.hid (P5'.out.mono hb); have RW6 := Lib.hid (RW5.out.below hb RW5.out.lt); have B6 := Lib.hid (B5'.out.trans (hb.mono B5'.out.size)); clear hb))
            have GR6 : Hid (gn = 0 ∨ ∃ g, ga = some ⟨g, 0, none⟩ ∧ w3.heap.size ≤ g ∧ ∃ Z, Row w6 g 34 Z ∧ gn * 4 ≤ Z.length) := Lib.hid (by
              rcases FR6.out.es.2 with ⟨-, h2, -⟩ | ⟨g, R, h1, h2, h3, h4, -, -⟩
              · exact .inl h2
              · exact .inr ⟨g, h1, FR6.out.ne g 0 h1, flat R, h2, by rw [flat_len]; omega⟩)
            have hgn := GN.out
            go_loopw [79] (fun iv wr => ∃ (j : Nat), iv = .int .i64 (j : Int) ∧ j ≤ gn ∧ Hid (PR q q wr p p' F G w.heap.size) ∧ Hid (Row wr wo.heap.size 36 (Dd13.cells ⟨op, dN, dt, dc', ⟨ix, tm, kd, qa, qn, qc⟩⟩)) ∧ Hid (gn = 0 ∨ ∃ g, ga = some ⟨g, 0, none⟩ ∧ w3.heap.size ≤ g ∧ ∃ Z, Row wr g 34 Z ∧ gn * 4 ≤ Z.length) ∧ Hid (Below w.heap.size w wr)) (fun iv _ => gn - (intOf iv).toNat)
            case atStart => exact ⟨0, rfl, Nat.zero_le _, P6, RW6, GR6, B6⟩
            case round =>
              obtain ⟨j, rfl, hj, HPj, HRW, HGj, HBj⟩ := hrel
              by_cases hjl : j < gn
              · obtain ⟨g, rfl, hg5, Z, hcr, hcl⟩ := HGj.out.resolve_left (by omega)
                have hcj : wr.cell? ⟨g, j * 4 + 1, none⟩ = some (Z[j * 4 + 1]'(by omega)) := by rw [hcr.cellV]; simp [show j * 4 + 1 < Z.length by omega]
                have fz := hcr.frozen (j * 4 + 1)
                have s1 : (0 : Int) ≤ (j : Int) := by omega
                have s2 : (j : Int) < (gn : Int) := by omega
                have HCR := Lib.hid hcr
                obtain ⟨oldc, hold⟩ : ∃ x, (Z[j * 4 + 1]'(by omega)) = x := ⟨_, rfl⟩
                rw [hold] at hcj
                clear hcr hold
                go_wp2_with fail
                have U9 := Upd.setCell wr g (j * 4 + 1) (.int .i64 (-1))
                go_roundw
                case rel => exact ⟨j + 1, vint (by omega), by omega, Lib.hid (HPj.out.ft (Ft.of_upd (F := fun x => x = g) U9 rfl) (fun x hx => by rw [hx]; exact OLD.out g (by have := Z3.out; omega))), Lib.hid (HRW.out.upd U9 (by have := Z3.out; omega)), Lib.hid (.inr ⟨g, rfl, hg5, _, HCR.out.setV (j * 4 + 1) (.int .i64 (-1)), by simpa using hcl⟩), Lib.hid (HBj.out.trans (U9.below (by have := Z3.out; have := HB.out.size; omega)))⟩
                case measure => (simp [intOf]; try omega)
              · obtain rfl : j = gn := by omega
                obtain ⟨o0, o1', o2, o3, o4, o5, o6, o7⟩ := HRW.out.q8
                go_wp2_with (first
                  | (go_at_call 12; (with_reducible refine (lsame HPj.out dN (by have := HN1.out; omega)).mono ?_); rintro x w20 ⟨rfl, hb⟩; have P20 := Lib.hid (HPj.out.mono hb); have B20 := Lib.hid (HBj.out.trans (hb.mono HBj.out.size)); clear hb))
                go_roundw
                case rel => exact ⟨k + 1, q, _, _, vint (by omega), by omega, by omega, P20, Lib.hid ⟨by have := HN1.out; omega, by have := HN2.out; omega⟩, B20⟩
                case measure => (simp [intOf]; try omega)
          · have t3 : decide ((300 : Int) < (qn : Int)) = true := by simp; omega
            have t4 : (300 : Int) < (qn : Int) := by omega
            go_wp2_with (first
              | ((with_reducible refine load_cells (o := ⟨some 51, _, _, _, _, _⟩) rfl _ _ rfl x1 (o1 + k * 8) ?_ (Dd13.cells ⟨op, dN, dt, dc', ⟨ix, tm, kd, qa, qn, qc⟩⟩) _ X1.out Try.underlying36 rfl ?_ ?_); (focus go_simp); (focus (exact DS.out)))
              | ((with_reducible refine alloc_row (o := ⟨some 14, _, _, _, _, _⟩) rfl _ rfl _ DZ.out ?_); intro w2 hr hb hz; have E2 := Lib.hid hr; have P2 := Lib.hid (HP.out.mono hb); have B2 := Lib.hid (HB.out.trans (hb.mono HB.out.size)); clear hr hb hz)
              | ((with_reducible refine store_row (o := ⟨none, _, _, _, _, _⟩) rfl _ (.tmp 14) _ rfl wo.heap.size (Dd13.cells ⟨op, dN, dt, dc', ⟨ix, tm, kd, qa, qn, qc⟩⟩) ?_ ?_ 36 _ E2.out ?_ ?_ (d13_one _) ?_); (focus go_simp); (focus (first | (go_simp; done) | (go_simp; rfl))); (focus (exact DS.out)); (focus rfl); intro w3 hr hu; have RW3 := Lib.hid hr; obtain ⟨e0, e1, e2, e3, e4, e5, e6, e7⟩ := hr.q8; have P3 := Lib.hid (P2.out.ft (Ft.of_upd (F := fun x => x = wo.heap.size) hu rfl) (fun x hx => by rw [hx]; exact HP.out.old (Nat.le_refl _))); have B3 := Lib.hid (B2.out.trans (hu.below HB.out.size)); have Z3 := Lib.hid (show wo.heap.size < w3.heap.size from hr.lt); clear hr hu)
              | (go_at_call 8; (with_reducible refine (awake13 w3).mono ?_); rintro x wz ⟨rfl, hb⟩; have Bz := Lib.hid (B3.out.trans (hb.mono B3.out.size)); clear hb))
            go_ret
            exact ⟨rfl, Bz.out⟩
        · have t1 : decide ((40 : Int) ≤ (k : Int)) = true := by simp; omega
          have t2 : (40 : Int) ≤ (k : Int) := by omega
          go_wp2_with (first
            | ((with_reducible refine load_cells (o := ⟨some 51, _, _, _, _, _⟩) rfl _ _ rfl x1 (o1 + k * 8) ?_ (Dd13.cells ⟨op, dN, dt, dc', ⟨ix, tm, kd, qa, qn, qc⟩⟩) _ X1.out Try.underlying36 rfl ?_ ?_); (focus go_simp); (focus (exact DS.out)))
            | ((with_reducible refine alloc_row (o := ⟨some 14, _, _, _, _, _⟩) rfl _ rfl _ DZ.out ?_); intro w2 hr hb hz; have E2 := Lib.hid hr; have P2 := Lib.hid (HP.out.mono hb); have B2 := Lib.hid (HB.out.trans (hb.mono HB.out.size)); clear hr hb hz)
            | ((with_reducible refine store_row (o := ⟨none, _, _, _, _, _⟩) rfl _ (.tmp 14) _ rfl wo.heap.size (Dd13.cells ⟨op, dN, dt, dc', ⟨ix, tm, kd, qa, qn, qc⟩⟩) ?_ ?_ 36 _ E2.out ?_ ?_ (d13_one _) ?_); (focus go_simp); (focus (first | (go_simp; done) | (go_simp; rfl))); (focus (exact DS.out)); (focus rfl); intro w3 hr hu; have RW3 := Lib.hid hr; obtain ⟨e0, e1, e2, e3, e4, e5, e6, e7⟩ := hr.q8; have P3 := Lib.hid (P2.out.ft (Ft.of_upd (F := fun x => x = wo.heap.size) hu rfl) (fun x hx => by rw [hx]; exact HP.out.old (Nat.le_refl _))); have B3 := Lib.hid (B2.out.trans (hu.below HB.out.size)); have Z3 := Lib.hid (show wo.heap.size < w3.heap.size from hr.lt); clear hr hu)
            | (go_at_call 8; (with_reducible refine (awake13 w3).mono ?_); rintro x wz ⟨rfl, hb⟩; have Bz := Lib.hid (B3.out.trans (hb.mono B3.out.size)); clear hb))
          go_ret
          exact ⟨rfl, Bz.out⟩
      · obtain rfl : k = dn := by omega
        go_wp2_with (first
          | (go_at_call 8; (with_reducible refine (awake13 wo).mono ?_); rintro x wz ⟨rfl, hb⟩; have Bz := Lib.hid (HB.out.trans (hb.mono HB.out.size)); clear hb))
        go_ret
        exact ⟨rfl, Bz.out⟩
end Go.Proofs.Ytnlbdgaleibgcaa.W
