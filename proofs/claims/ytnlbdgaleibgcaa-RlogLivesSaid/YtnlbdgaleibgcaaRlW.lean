/- LAYER 13 (rlog): awake; the laws Conf and Nobody. -/
import Derived.Test.YtnlbdgaleibgcaaRlG
set_option linter.unusedSimpArgs false
set_option linter.unusedVariables false
namespace Go.Proofs.Ytnlbdgaleibgcaa.W
open Go Go.ChangeShapes Go.WideShapes Go.ChangeAt Go.RowKit
open Go.Proofs.Ytnlbdgaleibgcaa.P (enc dec)

def aw1 : En := ⟨4, 1, 0, none, 0, 0⟩
def aw2 : En := ⟨5, 2, 0, none, 0, 0⟩
def awL : List (En × List UInt8) := [(aw1, []), (aw2, [])]
theorem built_1 : Try.prog.built 34 [(0, .int .i64 4), (1, .int .i64 1)] = some aw1.cells.toArray := by kernel_rfl
theorem built_2 : Try.prog.built 34 [(0, .int .i64 5), (1, .int .i64 2)] = some aw2.cells.toArray := by kernel_rfl
theorem aw_apps : (lsOf 3 1 7 []).apps (awL.map pe) = ⟨3, 1, 7, [(4, 1, 0, []), (5, 2, 0, [])]⟩ := by rfl
theorem aw_ents (w w' : World) (h : Row w' w.heap.size 34 (flat (awL.map (·.1)))) : Ents w' (some ⟨w.heap.size, 0, none⟩) 2 2 awL :=
  h.ents (fun p hp => by
    simp [awL] at hp
    rcases hp with rfl | rfl
    · exact ⟨⟨by decide, by decide⟩, ⟨by decide, by decide⟩, ⟨by decide, by decide⟩, Rd_nil _⟩
    · exact ⟨⟨by decide, by decide⟩, ⟨by decide, by decide⟩, ⟨by decide, by decide⟩, Rd_nil _⟩) 2 rfl (by decide)
set_option maxRecDepth 100000 in
theorem build2 {w : World} {ops : Array Oper} {rest : List Oper} {o : Oper} {a : Act} {Q : Exit → Act → World → Prop} (hgd : o.guard = none) (x y : Operand)
    (ho : o.op = .buildSlice 22 2 #[(0, x), (1, y)]) (hx : a.eval x = .agg aw1.cells.toArray) (hy : a.eval y = .agg aw2.cells.toArray)
    (hk : ∀ w', Row w' w.heap.size 34 (flat (awL.map (·.1))) → Below w.heap.size w w' → wpList Try.prog ops Q rest (a.put o.dst (.slice (some ⟨w.heap.size, 0, none⟩) 2 2)) w') : wpList Try.prog ops Q (o :: rest) a w := by
  obtain ⟨i0, hi, hz0, hz1, hz2⟩ := info_parts infoEn
  have hx' : a.eval x = .agg #[.int .i64 4, .int .i64 1, .int .i64 0, .slice none 0 0] := hx
  have hy' : a.eval y = .agg #[.int .i64 5, .int .i64 2, .int .i64 0, .slice none 0 0] := hy
  refine wpList_buildSlice hgd 22 34 2 _ ho #[.int .i64 4, .int .i64 1, .int .i64 0, .slice none 0 0, .int .i64 5, .int .i64 2, .int .i64 0, .slice none 0 0] i0 _ Try.underlying22 hi hz0 (by rw [hz1]; decide) (by rw [hz1]; decide) (by rw [hz1]; simp only [List.map_toArray, List.map_cons, List.map_nil, hx', hy']; go_simp; first | done | rfl) ?_
  exact hk _ (Row.new _ _ _) ((Below.refl _ _).alloc (Nat.le_refl _) _)
/-- the log of awake, whole and cut -/
def AW (q : LS) (w : World) (p base : Nat) : Prop := ∃ F ea en ec L, LG w p F 3 1 7 ea en ec L ∧ lsOf 3 1 7 L = q ∧ (∀ k, F k → base ≤ k)
def aq1 : LS := ⟨3, 1, 7, [(4, 1, 0, []), (5, 2, 0, [])]⟩
def aq2 : LS := ⟨3, 1, 7, []⟩
theorem aok1 : LOK aq1 := ⟨⟨rfl, rfl, trivial⟩, by decide, by decide, (by simp [aq1])⟩
theorem aok2 : LOK aq2 := ⟨trivial, by decide, by decide, (by simp [aq2])⟩
theorem awNew (w : World) (g : Nat) (h : Ents w (some ⟨g, 0, none⟩) 2 2 awL) : Calls Try.prog 10 #[.int .i64 3, .int .i64 1, .int .i64 7, .slice (some ⟨g, 0, none⟩) 2 2] w fun x w' => ∃ p, x = .returned (.pointer (some ⟨p, 0, none⟩)) ∧ AW aq1 w' p w.heap.size ∧ Below w.heap.size w w' := by
  refine (gnew 3 1 7 _ 2 2 awL w h (by decide) (by decide)).mono ?_
  rintro x w' ⟨p, F, ea, en, ec, L, rfl, hG, heq, -, -, hF, hb⟩
  exact ⟨p, rfl, ⟨F, ea, en, ec, L, hG, heq.trans aw_apps, hF⟩, hb⟩
theorem awLast (q : LS) (v : Int) (hq : LOK q) (hv : q.last = v) (w : World) (p base : Nat) (h : AW q w p base) : Calls Try.prog 30 #[.pointer (some ⟨p, 0, none⟩)] w fun x w' => x = .returned (.int .i64 v) ∧ AW q w' p base ∧ Below w.heap.size w w' := by
  obtain ⟨F, ea, en, ec, L, hG, rfl, hF⟩ := h
  refine (glast p F 3 1 7 ea en ec L w hG hq).mono ?_
  rintro x w' ⟨rfl, hb⟩
  exact ⟨by rw [hv], ⟨F, ea, en, ec, L, hG.mono hb, rfl, hF⟩, hb⟩
theorem awLastT (q : LS) (v : Int) (hq : LOK q) (hv : q.term q.last = v) (w : World) (p base : Nat) (h : AW q w p base) : Calls Try.prog 31 #[.pointer (some ⟨p, 0, none⟩)] w fun x w' => x = .returned (.int .i64 v) ∧ AW q w' p base ∧ Below w.heap.size w w' := by
  obtain ⟨F, ea, en, ec, L, hG, rfl, hF⟩ := h
  refine (glastT p F 3 1 7 ea en ec L w hG hq).mono ?_
  rintro x w' ⟨rfl, hb⟩
  exact ⟨by rw [hv], ⟨F, ea, en, ec, L, hG.mono hb, rfl, hF⟩, hb⟩
theorem awCut (q q' : LS) (i v : Int) (hq : LOK q) (hv : (q.cut i).2 = v) (hq' : (q.cut i).1 = q') (w : World) (p base : Nat) (hbase : base ≤ w.heap.size) (h : AW q w p base) : Calls Try.prog 16 #[.pointer (some ⟨p, 0, none⟩), .int .i64 i] w fun x w' => x = .returned (.int .i64 v) ∧ AW q' w' p base ∧ Below base w w' := by
  obtain ⟨F, ea, en, ec, L, hG, rfl, hF⟩ := h
  refine (gcut p F 3 1 7 ea en ec L i w hG hq).mono ?_
  rintro x w' ⟨en', L', rfl, hG', heq, hft⟩
  exact ⟨by rw [hv], ⟨F, ea, en', ec, L', hG', heq.trans hq', hF⟩, hft.below hbase hF⟩
set_option maxRecDepth 100000 in
set_option maxHeartbeats 8000000 in
theorem awake13 (w : World) : Calls Try.prog 8 #[] w fun x w' => x = .returned (.bool true) ∧ Below w.heap.size w w' := by
  obtain ⟨A1, hA1⟩ : ∃ A1, AW aq1 = A1 := ⟨_, rfl⟩
  obtain ⟨A2, hA2⟩ : ∃ A2, AW aq2 = A2 := ⟨_, rfl⟩
  have N1 := Lib.hid (fun (w1 : World) (h : Ents w1 (some ⟨w.heap.size, 0, none⟩) 2 2 awL) => awNew w1 w.heap.size h)
  have L1 := Lib.hid (awLast aq1 5 aok1 rfl)
  have C1 := Lib.hid (awCut aq1 aq2 4 0 aok1 rfl rfl)
  have L2 := Lib.hid (awLast aq2 3 aok2 rfl)
  have T2 := Lib.hid (awLastT aq2 1 aok2 rfl)
  have C2 := Lib.hid (awCut aq2 aq2 3 10 aok2 rfl rfl)
  rw [hA1] at N1 L1 C1
  rw [hA2] at C1 L2 T2 C2
  have EE := Lib.hid (fun w' h => aw_ents w w' h)
  obtain ⟨LL, hLL⟩ : ∃ LL, flat (awL.map (·.1)) = LL := ⟨_, rfl⟩
  obtain ⟨AL, hAL⟩ : ∃ AL, awL = AL := ⟨_, rfl⟩
  have BB := Lib.hid (fun (W : World) ops rest o a Q hgd x y ho hx hy hk => @build2 W ops rest o a Q hgd x y ho hx hy hk)
  rw [hLL] at EE BB
  rw [hAL] at EE N1
  clear hA1 hA2 hLL hAL
  go_enter Try.func8, Try.ntmps8
  go_wp2_with (first
    | ((with_reducible refine build_row (o := ⟨some 2, _, _, _, _, _⟩) rfl _ _ rfl aw1.cells ?_ ?_); (focus (go_simp; exact built_1)))
    | ((with_reducible refine build_row (o := ⟨some 3, _, _, _, _, _⟩) rfl _ _ rfl aw2.cells ?_ ?_); (focus (go_simp; exact built_2)))
    | ((with_reducible refine BB.out _ _ _ (⟨some 4, _, _, _, _, _⟩ : Oper) _ _ rfl _ _ rfl ?_ ?_ ?_); (focus (first | (go_simp; done) | (go_simp; rfl))); (focus (first | (go_simp; done) | (go_simp; rfl))); intro w1 hr hb; have E1 := Lib.hid (EE.out w1 hr); have B1 := Lib.hid hb; clear hr hb)
    | (go_at_call 10; (with_reducible refine (N1.out w1 E1.out).mono ?_); rintro x w2 ⟨p, rfl, hA, hb⟩; have G2 := Lib.hid hA; have S1 := Lib.hid (show w1.heap.size ≤ w2.heap.size from hb.size); have B2 := Lib.hid (B1.out.trans (hb.mono B1.out.size)); clear hA hb)
    | (go_at_call 30; (with_reducible refine (L1.out w2 p w1.heap.size G2.out).mono ?_); rintro x w3 ⟨rfl, hA, hb⟩; have G3 := Lib.hid hA; have S2 := Lib.hid (Nat.le_trans S1.out hb.size); have B3 := Lib.hid (B2.out.trans (hb.mono B2.out.size)); clear hA hb)
    | (go_at_call 16; (with_reducible refine (C1.out w3 p w1.heap.size S2.out G3.out).mono ?_); rintro x w4 ⟨rfl, hA, hb⟩; have G4 := Lib.hid hA; have S3 := Lib.hid (Nat.le_trans S2.out hb.size); have B4 := Lib.hid (B3.out.trans (hb.mono B1.out.size)); clear hA hb)
    | (go_at_call 30; (with_reducible refine (L2.out w4 p w1.heap.size G4.out).mono ?_); rintro x w5 ⟨rfl, hA, hb⟩; have G5 := Lib.hid hA; have S4 := Lib.hid (Nat.le_trans S3.out hb.size); have B5 := Lib.hid (B4.out.trans (hb.mono B4.out.size)); clear hA hb)
    | (go_at_call 31; (with_reducible refine (T2.out w5 p w1.heap.size G5.out).mono ?_); rintro x w6 ⟨rfl, hA, hb⟩; have G6 := Lib.hid hA; have S5 := Lib.hid (Nat.le_trans S4.out hb.size); have B6 := Lib.hid (B5.out.trans (hb.mono B5.out.size)); clear hA hb)
    | (go_at_call 16; (with_reducible refine (C2.out w6 p w1.heap.size S5.out G6.out).mono ?_); rintro x w7 ⟨rfl, hA, hb⟩; have B7 := Lib.hid (B6.out.trans (hb.mono B1.out.size)); clear hA hb))
  go_ret
  exact ⟨by simp, B7.out⟩
theorem dec_enc7 : ∀ n : Nat, n ≤ 127 → 1 ≤ n → confV (enc n) = (n : Int) := by
  intro n hn h1
  have key : ∀ k : Fin 128, 1 ≤ k.val → confV (enc k.val) = (k.val : Int) := by decide +kernel
  exact key ⟨n, by omega⟩ h1
set_option maxRecDepth 100000 in
set_option maxHeartbeats 8000000 in
theorem law_RlogConf (n : Int) (a : Option Addr) (m c : Nat) (zs : List Int) (w : World) (wn : (Lit.int .i64 n).wf = true) (wb : IsRow .u8 w a m c zs) :
    Calls Try.prog 4 #[.int .i64 n, .slice a m c] w fun x w' => x = .returned (.bool true) ∧ Below w.heap.size w w' := by
  have hn := bd wn
  have hR := Rd.of_row wb
  obtain ⟨l, hl⟩ : ∃ l, ((zs.take m).map fun n => UInt8.ofNat n.toNat) = l := ⟨_, rfl⟩
  rw [hl] at hR
  have HR := Lib.hid hR
  clear wb hl hR wn
  have hel := P.enc_len n.toNat (by omega)
  have CD := Lib.hid (fun (W : World) => gconfData n W hn.2)
  have XD := Lib.hid (fun (W : World) => xconfData n W hn.2)
  have CV := Lib.hid (fun (h1 : 1 ≤ n) (h2 : n ≤ 127) => (show confV (enc n.toNat) = n by rw [dec_enc7 n.toNat (by omega) (by omega)]; omega))
  have GO := Lib.hid (fun (W : World) (hb : Below w.heap.size w W) (h9 : m ≤ 1000) => gconfOf a m c l W (HR.out.mono hb) (by omega))
  have XO := Lib.hid (fun (W : World) (hb : Below w.heap.size w W) (h9 : m ≤ 1000) => xconfOf a m c l W (HR.out.mono hb) (by omega))
  obtain ⟨cv, hcv⟩ : ∃ cv, confV l = cv := ⟨_, rfl⟩
  rw [hcv] at GO XO
  obtain ⟨E, hE⟩ : ∃ E, enc n.toNat = E := ⟨_, rfl⟩
  rw [hE] at CD XD CV hel
  obtain ⟨el, hel2⟩ : ∃ el, E.length = el := ⟨_, rfl⟩
  rw [hel2] at CD XD hel
  clear hcv hE hel2
  by_cases hm : (1000 : Int) < (m : Int)
  · go_enter Try.func4, Try.ntmps4
    go_wp2_with (first | (go_at_call 8; (with_reducible refine (awake13 w).mono ?_); rintro x wz ⟨rfl, hb⟩; have Bz := Lib.hid hb; clear hb))
    go_ret
    exact ⟨rfl, Bz.out⟩
  by_cases h1 : 1 ≤ n
  · by_cases h127 : n ≤ 127
    · have HV := Lib.hid (CV.out h1 h127)
      have HCO := Lib.hid (show ∀ (W : World) (ra : Option Addr) (rc : Nat), Rd W ra el rc E → Calls Try.prog 25 #[.slice ra el rc] W fun x w' => x = .returned (.int .i64 n) ∧ Below W.heap.size W w' from fun W ra rc hr => by have := gconfOf ra el rc E W hr (by omega); rw [HV.out] at this; exact this)
      clear HV
      go_enter Try.func4, Try.ntmps4
      go_wp2_with (first
        | (go_at_call 26; (with_reducible refine (CD.out w).mono ?_); rintro x w1 ⟨ra, rc, rfl, hr, hb⟩; have R1 := Lib.hid hr; have B1 := Lib.hid hb; clear hr hb)
        | (go_at_call 25; (with_reducible refine (HCO.out w1 ra rc R1.out).mono ?_); rintro x w2 ⟨rfl, hb⟩; have B2 := Lib.hid (B1.out.trans (hb.mono B1.out.size)); clear hb)
        | (go_at_call 26; (with_reducible refine (CD.out w2).mono ?_); rintro x w3 ⟨sa, sc, rfl, hr, hb⟩; have R3 := Lib.hid hr; have B3 := Lib.hid (B2.out.trans (hb.mono B2.out.size)); clear hr hb)
          | (go_at_call 28; (with_reducible refine (XD.out w3).mono ?_); rintro x w4 ⟨ta, tc, rfl, hr, hb⟩; have T4 := Lib.hid hr; have R4 := Lib.hid (R3.out.mono hb); have B4 := Lib.hid (B3.out.trans (hb.mono B3.out.size)); clear hr hb)
          | (go_at_call 27; (with_reducible refine (sequal sa ta el el sc tc E E w4 R4.out T4.out).mono ?_); rw [decide_eq_true rfl]; rintro x w5 ⟨rfl, hq⟩; have B5 := Lib.hid (B4.out.trans (hq.below w4.heap.size |>.mono B4.out.size)); clear hq)
          | (go_at_call 25; (with_reducible refine (GO.out w5 B5.out (by omega)).mono ?_); rintro x w6 ⟨rfl, hb⟩; have B6 := Lib.hid (B5.out.trans (hb.mono B5.out.size)); clear hb)
          | (go_at_call 29; (with_reducible refine (XO.out w6 B6.out (by omega)).mono ?_); rintro x w7 ⟨rfl, hb⟩; have B7 := Lib.hid (B6.out.trans (hb.mono B6.out.size)); clear hb)
          | (go_at_call 8; (with_reducible refine (awake13 w7).mono ?_); rintro x wz ⟨rfl, hb⟩; have Bz := Lib.hid (B7.out.trans (hb.mono B7.out.size)); clear hb))
      go_ret
      exact ⟨by simp, Bz.out⟩
    · go_enter Try.func4, Try.ntmps4
      have B2 := Lib.hid (Below.refl w.heap.size w)
      go_wp2_with (first
        | (go_at_call 26; (with_reducible refine (CD.out w).mono ?_); rintro x w3 ⟨sa, sc, rfl, hr, hb⟩; have R3 := Lib.hid hr; have B3 := Lib.hid (B2.out.trans (hb.mono B2.out.size)); clear hr hb)
          | (go_at_call 28; (with_reducible refine (XD.out w3).mono ?_); rintro x w4 ⟨ta, tc, rfl, hr, hb⟩; have T4 := Lib.hid hr; have R4 := Lib.hid (R3.out.mono hb); have B4 := Lib.hid (B3.out.trans (hb.mono B3.out.size)); clear hr hb)
          | (go_at_call 27; (with_reducible refine (sequal sa ta el el sc tc E E w4 R4.out T4.out).mono ?_); rw [decide_eq_true rfl]; rintro x w5 ⟨rfl, hq⟩; have B5 := Lib.hid (B4.out.trans (hq.below w4.heap.size |>.mono B4.out.size)); clear hq)
          | (go_at_call 25; (with_reducible refine (GO.out w5 B5.out (by omega)).mono ?_); rintro x w6 ⟨rfl, hb⟩; have B6 := Lib.hid (B5.out.trans (hb.mono B5.out.size)); clear hb)
          | (go_at_call 29; (with_reducible refine (XO.out w6 B6.out (by omega)).mono ?_); rintro x w7 ⟨rfl, hb⟩; have B7 := Lib.hid (B6.out.trans (hb.mono B6.out.size)); clear hb)
          | (go_at_call 8; (with_reducible refine (awake13 w7).mono ?_); rintro x wz ⟨rfl, hb⟩; have Bz := Lib.hid (B7.out.trans (hb.mono B7.out.size)); clear hb))
      go_ret
      exact ⟨by simp, Bz.out⟩
  · go_enter Try.func4, Try.ntmps4
    have B2 := Lib.hid (Below.refl w.heap.size w)
    go_wp2_with (first
      | (go_at_call 26; (with_reducible refine (CD.out w).mono ?_); rintro x w3 ⟨sa, sc, rfl, hr, hb⟩; have R3 := Lib.hid hr; have B3 := Lib.hid (B2.out.trans (hb.mono B2.out.size)); clear hr hb)
          | (go_at_call 28; (with_reducible refine (XD.out w3).mono ?_); rintro x w4 ⟨ta, tc, rfl, hr, hb⟩; have T4 := Lib.hid hr; have R4 := Lib.hid (R3.out.mono hb); have B4 := Lib.hid (B3.out.trans (hb.mono B3.out.size)); clear hr hb)
          | (go_at_call 27; (with_reducible refine (sequal sa ta el el sc tc E E w4 R4.out T4.out).mono ?_); rw [decide_eq_true rfl]; rintro x w5 ⟨rfl, hq⟩; have B5 := Lib.hid (B4.out.trans (hq.below w4.heap.size |>.mono B4.out.size)); clear hq)
          | (go_at_call 25; (with_reducible refine (GO.out w5 B5.out (by omega)).mono ?_); rintro x w6 ⟨rfl, hb⟩; have B6 := Lib.hid (B5.out.trans (hb.mono B5.out.size)); clear hb)
          | (go_at_call 29; (with_reducible refine (XO.out w6 B6.out (by omega)).mono ?_); rintro x w7 ⟨rfl, hb⟩; have B7 := Lib.hid (B6.out.trans (hb.mono B6.out.size)); clear hb)
          | (go_at_call 8; (with_reducible refine (awake13 w7).mono ?_); rintro x wz ⟨rfl, hb⟩; have Bz := Lib.hid (B7.out.trans (hb.mono B7.out.size)); clear hb))
    go_ret
    exact ⟨by simp, Bz.out⟩
theorem results_cell_one {P : Program} {fn : Func} {p : Tmp} {ty : TypeId} (h : fn.results = #[.cell p ty]) (tmps : Array Value) (w : World) (g : Nat) (v : Value) (k : IntKind)
    (hp : tmps.getD p undef = .pointer (some ⟨g, 0, none⟩)) (hg : w.cell? ⟨g, 0, none⟩ = some v) (hu : P.underlying ty = some (.int k)) (hi : (P.info? ty).map (·.size) = some 1) :
    (results fn tmps).run P w = .ok v w := by
  have hagg : (isAgg ty).run P w = .ok false w := by
    unfold isAgg
    rw [Sem.run_bind, run_underlying hu w]
    rfl
  have hl : (loadCells ⟨g, 0, none⟩ 1).run P w = .ok #[v] w := run_loadCells_list (P := P) w ⟨g, 0, none⟩ [v] (fun j u hj => by
    rcases j with _ | j
    · simp at hj; subst hj; simpa [Go.WideShapes.add_plain] using hg
    · simp at hj)
  cases hq : P.info? ty with
  | none => simp [hq] at hi
  | some i =>
    have hs : i.size = 1 := by simpa [hq] using hi
    have hp2 : tmps[p]?.getD undef = .pointer (some ⟨g, 0, none⟩) := by simpa [Array.getD_eq_getD_getElem?] using hp
    simp [results, h, hp2, hg, asAddr, loadVar, Sem.run_bind, hagg, sizeOf, typeInfo, hq, hs, hl, Result.andThen]
theorem nready (w : World) : Calls Try.prog 41 #[.pointer none] w fun x w' => x = .returned (.bool false) ∧ w = w' := by
  go_enter Try.func41, Try.ntmps41
  go_wp2_with fail
  go_ret
  exact ⟨rfl, rfl⟩
theorem zready (p : Nat) (w : World) (h : Row w p 55 [.bool false, .int .i64 0, .int .i64 0, .int .i64 0, .slice none 0 0]) : Calls Try.prog 41 #[.pointer (some ⟨p, 0, none⟩)] w fun x w' => x = .returned (.bool false) ∧ w = w' := by
  have c0 := h.k0
  clear h
  go_enter Try.func41, Try.ntmps41
  go_wp2_with fail
  go_ret
  exact ⟨rfl, rfl⟩
set_option maxRecDepth 100000 in
theorem nreset (b t c : Int) (w : World) : Calls Try.prog 20 #[.pointer none, .int .i64 b, .int .i64 t, .int .i64 c] w fun x w' => (∃ v, x = .returned v) ∧ w = w' := by
  go_enter Try.func20, Try.ntmps20
  go_wp2_with (first | (go_at_call 41; (with_reducible refine (nready _).mono ?_); rintro x w9 ⟨rfl, rfl⟩))
  first | go_end0 | (refine bodyPost_ret (results_none rfl _ _ _) rfl ?_)
  exact ⟨⟨_, rfl⟩, rfl⟩
set_option maxRecDepth 100000 in
theorem nbase (w : World) : Calls Try.prog 33 #[.pointer none] w fun x w' => x = .returned (.int .i64 0) ∧ Below w.heap.size w w' := by
  go_enter Try.func33, Try.ntmps33
  go_wp2_with (first | (go_at_call 41; (with_reducible refine (nready _).mono ?_); rintro x w9 ⟨rfl, rfl⟩))
  go_ret
  exact ⟨rfl, Below.refl _ _⟩
set_option maxRecDepth 100000 in
theorem nlast (w : World) : Calls Try.prog 30 #[.pointer none] w fun x w' => x = .returned (.int .i64 0) ∧ Below w.heap.size w w' := by
  go_enter Try.func30, Try.ntmps30
  go_wp2_with (first | (go_at_call 41; (with_reducible refine (nready _).mono ?_); rintro x w9 ⟨rfl, rfl⟩))
  go_ret
  exact ⟨rfl, Below.refl _ _⟩
set_option maxRecDepth 100000 in
theorem nterm (i : Int) (w : World) : Calls Try.prog 34 #[.pointer none, .int .i64 i] w fun x w' => x = .returned (.tuple #[.int .i64 0, .int .i64 2]) ∧ Below w.heap.size w w' := by
  go_enter Try.func34, Try.ntmps34
  go_wp2_with (first | (go_at_call 41; (with_reducible refine (nready _).mono ?_); rintro x w9 ⟨rfl, rfl⟩))
  go_ret2
  exact ⟨rfl, Below.refl _ _⟩
set_option maxRecDepth 100000 in
theorem nlastT (w : World) : Calls Try.prog 31 #[.pointer none] w fun x w' => x = .returned (.int .i64 0) ∧ Below w.heap.size w w' := by
  go_enter Try.func31, Try.ntmps31
  go_wp2_with (first | (go_at_call 30; (with_reducible refine (nlast w).mono ?_); rintro x w1 ⟨rfl, hb⟩; have B1 := Lib.hid hb; clear hb) | (go_at_call 34; (with_reducible refine (nterm 0 w1).mono ?_); rintro x w2 ⟨rfl, hb⟩; have B2 := Lib.hid (B1.out.trans (hb.mono B1.out.size)); clear hb))
  go_ret
  exact ⟨rfl, B2.out⟩
set_option maxRecDepth 100000 in
theorem nconfAt (i : Int) (w : World) : Calls Try.prog 35 #[.pointer none, .int .i64 i] w fun x w' => x = .returned (.int .i64 0) ∧ Below w.heap.size w w' := by
  go_enter Try.func35, Try.ntmps35
  go_wp2_with (first
    | (with_reducible refine alloc_cell (o := ⟨some 4, _, _, _, _, _⟩) rfl _ rfl (.int .i64 0) rfl (by kernel_rfl) ?_; intro w1 hr1 hb1 hz1; have R1 := Lib.hid hr1; have B1 := Lib.hid hb1; have f0 := R1.out.frozen 0; have d0 := R1.out.k0; clear hr1 hb1 hz1)
    | (go_at_call 41; (with_reducible refine (nready _).mono ?_); rintro x w9 ⟨rfl, rfl⟩))
  exact bodyPost_ret (results_cell_one rfl _ _ w.heap.size (.int .i64 0) .i64 (by go_simp) (by rw [((R1.out.setV 0 (.int .i64 0))).cellV]; rfl) Try.underlying3 (by kernel_rfl)) rfl ⟨rfl, B1.out.trans ((Upd.setCell w1 w.heap.size 0 (.int .i64 0)).below (Nat.le_refl _))⟩
set_option maxRecDepth 100000 in
theorem nconf (w : World) : Calls Try.prog 32 #[.pointer none] w fun x w' => x = .returned (.int .i64 0) ∧ Below w.heap.size w w' := by
  go_enter Try.func32, Try.ntmps32
  go_wp2_with (first | (go_at_call 30; (with_reducible refine (nlast w).mono ?_); rintro x w1 ⟨rfl, hb⟩; have B1 := Lib.hid hb; clear hb) | (go_at_call 35; (with_reducible refine (nconfAt 0 w1).mono ?_); rintro x w2 ⟨rfl, hb⟩; have B2 := Lib.hid (B1.out.trans (hb.mono B1.out.size)); clear hb))
  go_ret
  exact ⟨rfl, B2.out⟩
set_option maxRecDepth 100000 in
theorem nfrom (i j : Int) (w : World) : Calls Try.prog 22 #[.pointer none, .int .i64 i, .int .i64 j] w fun x w' => x = .returned (.slice none 0 0) ∧ Below w.heap.size w w' := by
  go_enter Try.func22, Try.ntmps22
  go_wp2_with (first | (go_at_call 41; (with_reducible refine (nready _).mono ?_); rintro x w9 ⟨rfl, rfl⟩))
  go_ret
  exact ⟨rfl, Below.refl _ _⟩
end Go.Proofs.Ytnlbdgaleibgcaa.W
