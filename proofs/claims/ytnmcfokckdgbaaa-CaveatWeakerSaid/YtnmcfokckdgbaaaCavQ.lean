/- THE LAW CaveatWeaker: more caveats never allow more. -/
import Derived.Test.YtnmcfokckdgbaaaCavK
import Derived.Test.YtnmcfokckdgbaaaCavM
import Derived.Test.YtnmcfokckdgbaaaTail
import Derived.Test.YtnmcfokckdgbaaaQ2
namespace Go.Proofs.Ytnmcfokckdgbaaa.W
open Go.ChangeShapes Go.WideShapes Go.ChangeAt Go.RowKit

theorem val_list {P : Program} {ops : Array Oper} {rest : List Oper} {o : Oper} {a : Act} {w : World} {Q : Exit → Act → World → Prop} (hgd : o.guard = none) (v : Value) (hrun : (execOp a.eval o).run P w = .ok (.value v) w)
    (h : wpList P ops Q rest (a.put o.dst v) w) : wpList P ops Q (o :: rest) a w := by
  refine wpList_plain hgd fun K hK => ?_
  unfold Oper.wp
  rw [hrun]
  exact hK _ _ h

theorem FrC.base {w : World} {base base' : Nat} {v : Value} {L : List Cv} (h : FrC w base v L) (hb : base' ≤ base) : FrC w base' v L := by
  obtain ⟨h1, h2⟩ := h
  refine ⟨h1, ?_⟩
  rcases h2 with h2 | ⟨g, cap, cur, rfl, hg, r⟩
  · exact .inl h2
  · exact .inr ⟨g, cap, cur, rfl, by omega, r⟩
theorem cvs_new (w : World) (c : Cv) (hc : c.fit) : Cvs (w.alloc (.cells #[.int .i64 c.kind, .int .i64 c.num, .string c.name] 34)) (some ⟨w.heap.size, 0, none⟩) 1 1 [c] := by
  refine ⟨rfl, Nat.le_refl _, by omega, fun d hd => by simp at hd; rw [hd]; exact hc, (fun h => by cases h), .inr ⟨w.heap.size, 0, rfl, by simp, fun i hi j v hj => ?_⟩⟩
  obtain rfl : i = 0 := by omega
  rw [cell_of_row _ w.heap.size _ _ 34 _ (heap_alloc_new w _)]
  simpa [Cv.cells] using hj
theorem allV_snoc (L : List Cv) (c : Cv) (d : Dd) : allV (L ++ [c]) d = (allV L d && holdsV c d) := by simp [allV]
theorem ext_self (L : List Cv) (c : Cv) : extV (L ++ [c]) L = true := by
  unfold extV
  rw [decide_eq_true (by simp), Bool.true_and, List.take_left' rfl, same_refl]
theorem ext_not (L : List Cv) (c : Cv) : extV L (L ++ [c]) = false := by
  unfold extV
  rw [decide_eq_false (by simp), Bool.false_and]

/-- what has been done of 'append(slices.Clone(l), c)' -/
structure RW (w3 : World) (a : Option Addr) (len cap : Nat) (L : List Cv) (c : Cv) (v : World) (e0 e1 e2 e3 e4 e5 : Bool) (u18 u19 u20 u21 u22 u7 : Value) (gb : Nat) : Prop where
  bel : Below w3.heap.size w3 v
  f0 : e0 = true → u18 = .slice a len cap
  f1 : e1 = true → e4 = false → FrC v w3.heap.size u19 L
  f2 : e2 = true → u20 = .agg #[.int .i64 c.kind, .int .i64 c.num, .string c.name]
  f3 : e3 = true → e4 = false → u21 = .slice (some ⟨gb, 0, none⟩) 1 1 ∧ Cvs v (some ⟨gb, 0, none⟩) 1 1 [c]
  f4 : e4 = true → FrC v w3.heap.size u22 (L ++ [c])
  f5 : e5 = true → u7 = u22
  s5 : e5 = true → e4 = true
theorem RW.grow {w3 v v' : World} {a : Option Addr} {len cap : Nat} {L : List Cv} {c : Cv} {e0 e1 e2 e3 e4 e5 : Bool} {u18 u19 u20 u21 u22 u7 : Value} {gb : Nat} (x : RW w3 a len cap L c v e0 e1 e2 e3 e4 e5 u18 u19 u20 u21 u22 u7 gb) (hb : Below v.heap.size v v') :
    RW w3 a len cap L c v' e0 e1 e2 e3 e4 e5 u18 u19 u20 u21 u22 u7 gb :=
  { x with bel := x.bel.trans (hb.mono x.bel.size), f1 := fun h h' => (x.f1 h h').kept hb, f3 := fun h h' => ⟨(x.f3 h h').1, (x.f3 h h').2.mono hb⟩, f4 := fun h => (x.f4 h).kept hb }

set_option maxRecDepth 100000 in
set_option maxHeartbeats 8000000 in
theorem law_CaveatWeaker (a : Option Addr) (len cap : Nat) (L : List Cv) (c : Cv) (d : Dd) (w : World) (h : Cvs w a len cap L) (hc : c.fit) (hd : d.fit) :
    Calls Try.prog 11 #[.slice a len cap, c.val, d.val] w fun e w' => e = .returned (.bool true) ∧ Below w.heap.size w w' := by
  have HC := Lib.hid hc
  have HD := Lib.hid hd
  have H := Lib.hid h
  have hlen := h.hlen
  obtain ⟨kind, num, name⟩ := c
  obtain ⟨act, time, client, bytes, space, snap⟩ := d
  have hn : name.size ≤ maxLen := hc.2.2
  unfold maxLen at hn
  have hfitL := h.hfit
  have HFL := Lib.hid (show ∀ c' ∈ L ++ [(⟨kind, num, name⟩ : Cv)], c'.fit from fun c' hc' => by
    rcases List.mem_append.1 hc' with h1 | h1
    · exact hfitL c' h1
    · simp at h1; rw [h1]; exact hc)
  clear hc hd h hfitL
  rcases hfew : fewV L with _ | _
  · have FEW := Lib.hid hfew
    clear hfew
    go_enter Try.func11, Try.ntmps11
    go_wp2_with (first
      | (with_reducible refine box_row (o := ⟨some 4, _, _, _, _, _⟩) rfl _ _ rfl [.int .i64 kind, .int .i64 num, .string name] rfl ?_; intro w1 hr1 hb1 hz1; have HR1 := Lib.hid hr1; clear hr1; have HZ1 := Lib.hid hz1; clear hz1; have HB1 := Lib.hid hb1; clear hb1)
      | (with_reducible refine box_row (o := ⟨some 5, _, _, _, _, _⟩) rfl _ _ rfl [.int .i64 act, .int .i64 time, .int .i64 client, .int .i64 bytes, .string space, .string snap] rfl ?_; intro w2 hr2 hb2 hz2; have HR2 := Lib.hid hr2; clear hr2; have HZ2 := Lib.hid hz2; clear hz2; have HRC := Lib.hid (HR1.out.below hb2 (by have := HZ1.out; omega)); have HB2 := Lib.hid (HB1.out.trans (hb2.mono (by have := HZ1.out; omega))); clear hb2)
      | (go_at_call 27; refine (few_any a len cap L _ (H.out.mono HB2.out)).mono ?_; rw [FEW.out]; rintro e w3 ⟨rfl, hb3⟩; have HC3 := Lib.hid (HRC.out.below hb3 HRC.out.lt); have HD3 := Lib.hid (HR2.out.below hb3 HR2.out.lt); have HB3 := Lib.hid (HB2.out.trans (hb3.mono HB2.out.size)); clear hb3; have f0 := HC3.out.c0; have f1 := HC3.out.c1; have f2 := HC3.out.c2)
      | (go_at_call 22; refine (awake6 _).mono ?_; rintro e w' ⟨rfl, hb⟩))
    go_ret
    exact ⟨rfl, HB3.out.trans ((by assumption : Below w3.heap.size w3 _).mono HB3.out.size)⟩
  · have FEW := Lib.hid hfew
    have hl30 : len ≤ 30 := by
      unfold fewV at hfew
      simp only [Bool.and_eq_true, decide_eq_true_eq] at hfew
      omega
    have HL := Lib.hid hlen
    clear hfew hlen
    by_cases h2 : 200 < name.size
    · go_enter Try.func11, Try.ntmps11
      go_wp2_with (first
      | (with_reducible refine box_row (o := ⟨some 4, _, _, _, _, _⟩) rfl _ _ rfl [.int .i64 kind, .int .i64 num, .string name] rfl ?_; intro w1 hr1 hb1 hz1; have HR1 := Lib.hid hr1; clear hr1; have HZ1 := Lib.hid hz1; clear hz1; have HB1 := Lib.hid hb1; clear hb1)
      | (with_reducible refine box_row (o := ⟨some 5, _, _, _, _, _⟩) rfl _ _ rfl [.int .i64 act, .int .i64 time, .int .i64 client, .int .i64 bytes, .string space, .string snap] rfl ?_; intro w2 hr2 hb2 hz2; have HR2 := Lib.hid hr2; clear hr2; have HZ2 := Lib.hid hz2; clear hz2; have HRC := Lib.hid (HR1.out.below hb2 (by have := HZ1.out; omega)); have HB2 := Lib.hid (HB1.out.trans (hb2.mono (by have := HZ1.out; omega))); clear hb2)
      | (go_at_call 27; refine (few_any a len cap L _ (H.out.mono HB2.out)).mono ?_; rw [FEW.out]; rintro e w3 ⟨rfl, hb3⟩; have HC3 := Lib.hid (HRC.out.below hb3 HRC.out.lt); have HD3 := Lib.hid (HR2.out.below hb3 HR2.out.lt); have HB3 := Lib.hid (HB2.out.trans (hb3.mono HB2.out.size)); clear hb3; have f0 := HC3.out.c0; have f1 := HC3.out.c1; have f2 := HC3.out.c2)
      | (go_at_call 22; refine (awake6 _).mono ?_; rintro e w' ⟨rfl, hb⟩))
      go_ret
      exact ⟨rfl, HB3.out.trans ((by assumption : Below w3.heap.size w3 _).mono HB3.out.size)⟩
    · go_enter Try.func11, Try.ntmps11
      go_wp2_with (first
      | (with_reducible refine box_row (o := ⟨some 4, _, _, _, _, _⟩) rfl _ _ rfl [.int .i64 kind, .int .i64 num, .string name] rfl ?_; intro w1 hr1 hb1 hz1; have HR1 := Lib.hid hr1; clear hr1; have HZ1 := Lib.hid hz1; clear hz1; have HB1 := Lib.hid hb1; clear hb1)
      | (with_reducible refine box_row (o := ⟨some 5, _, _, _, _, _⟩) rfl _ _ rfl [.int .i64 act, .int .i64 time, .int .i64 client, .int .i64 bytes, .string space, .string snap] rfl ?_; intro w2 hr2 hb2 hz2; have HR2 := Lib.hid hr2; clear hr2; have HZ2 := Lib.hid hz2; clear hz2; have HRC := Lib.hid (HR1.out.below hb2 (by have := HZ1.out; omega)); have HB2 := Lib.hid (HB1.out.trans (hb2.mono (by have := HZ1.out; omega))); clear hb2)
      | (go_at_call 27; refine (few_any a len cap L _ (H.out.mono HB2.out)).mono ?_; rw [FEW.out]; rintro e w3 ⟨rfl, hb3⟩; have HC3 := Lib.hid (HRC.out.below hb3 HRC.out.lt); have HD3 := Lib.hid (HR2.out.below hb3 HR2.out.lt); have HB3 := Lib.hid (HB2.out.trans (hb3.mono HB2.out.size)); clear hb3; have f0 := HC3.out.c0; have f1 := HC3.out.c1; have f2 := HC3.out.c2)
      | (go_at_call 22; refine (awake6 _).mono ?_; rintro e w' ⟨rfl, hb⟩))
      clear f0 f1 f2
      have HH3 := Lib.hid (H.out.mono HB3.out)
      refine wp_region_inv (by kernel_rfl) (by kernel_rfl) (fun a0 d a' v => ∃ u18 u19 u20 u21 u22 u7 gb, a' = (((((a0.put (some 18) u18).put (some 19) u19).put (some 20) u20).put (some 21) u21).put (some 22) u22).put (some 7) u7 ∧
        RW w3 a len cap L ⟨kind, num, name⟩ v (d.getD 0 false) (d.getD 1 false) (d.getD 2 false) (d.getD 3 false) (d.getD 4 false) (d.getD 5 false) u18 u19 u20 u21 u22 u7 gb) ?_ ?_ ?_
      · refine ⟨undef, undef, undef, undef, undef, undef, 0, by go_simp, ?_⟩
        exact { bel := (Below.refl _ _).drew, f0 := (by intro h; cases h), f1 := (by intro h; cases h), f2 := (by intro h; cases h), f3 := (by intro h; cases h), f4 := (by intro h; cases h), f5 := (by intro h; cases h), s5 := (by intro h; cases h) }
      · intro d a' v i o hs hI ho hu he M hM
        obtain ⟨u18, u19, u20, u21, u22, u7, gb, rfl, x⟩ := hI
        obtain ⟨dl⟩ := d
        match dl, hs with
        | [e0, e1, e2, e3, e4, e5], _ =>
        have x : RW w3 a len cap L ⟨kind, num, name⟩ v e0 e1 e2 e3 e4 e5 u18 u19 u20 u21 u22 u7 gb := x
        have hrc := HC3.out.below x.bel HC3.out.lt
        have hcv := HH3.out.mono x.bel
        have hi : i < 6 := by have := (List.getElem?_eq_some_iff.1 ho).1; simpa using this
        have hi' : i = 0 ∨ i = 1 ∨ i = 2 ∨ i = 3 ∨ i = 4 ∨ i = 5 := by omega
        rcases hi' with rfl | rfl | rfl | rfl | rfl | rfl
        all_goals
          simp only [List.getElem?_cons_zero, List.getElem?_cons_succ, Option.some.injEq] at ho
          subst ho
          simp [Region.binds] at he hu
        · refine val_list rfl (.slice a len cap) (by go_simp) ?_
          refine hM _ _ ⟨.slice a len cap, u19, u20, u21, u22, u7, gb, by go_simp, ?_⟩
          show RW w3 a len cap L ⟨kind, num, name⟩ v true e1 e2 e3 e4 e5 (.slice a len cap) u19 u20 u21 u22 u7 gb
          exact { x with f0 := fun _ => rfl }
        · have h0 := x.f0 he
          subst h0
          refine call_list rfl 49 #[.slice a len cap] (by go_simp) (fun r w' => FrC w' v.heap.size r L ∧ Below v.heap.size v w') ((clone_cv a len cap L v hcv (by omega)).mono fun e w' ⟨r, he, hf, hb⟩ => ⟨r, he, hf, hb⟩) ?_
          rintro r w' ⟨hf, hb⟩
          refine hM _ _ ⟨.slice a len cap, r, u20, u21, u22, u7, gb, by go_simp, ?_⟩
          show RW w3 a len cap L ⟨kind, num, name⟩ w' e0 true e2 e3 e4 e5 (.slice a len cap) r u20 u21 u22 u7 gb
          have y := x.grow hb
          exact { y with f1 := fun _ _ => hf.base x.bel.size }
        · refine load_row rfl _ _ rfl w.heap.size (by go_simp) 34 _ _ hrc Try.underlying34 rfl cv_size ?_
          refine hM _ _ ⟨u18, u19, .agg #[.int .i64 kind, .int .i64 num, .string name], u21, u22, u7, gb, by go_simp, ?_⟩
          show RW w3 a len cap L ⟨kind, num, name⟩ v e0 e1 true e3 e4 e5 u18 u19 (.agg #[.int .i64 kind, .int .i64 num, .string name]) u21 u22 u7 gb
          exact { x with f2 := fun _ => rfl }
        · have h0 := x.f2 he
          subst h0
          obtain ⟨i0, hi0, hz0, hz1, hz2⟩ := info_parts infoCv
          refine wpList_buildSlice rfl 39 34 1 _ rfl #[.int .i64 kind, .int .i64 num, .string name] i0 _ Try.underlying39 hi0 hz0 (by rw [hz1]; decide) (by rw [hz1]; decide) (by rw [hz1]; go_simp) ?_
          refine hM _ _ ⟨u18, u19, .agg #[.int .i64 kind, .int .i64 num, .string name], .slice (some ⟨v.heap.size, 0, none⟩) 1 1, u22, u7, v.heap.size, by go_simp, ?_⟩
          show RW w3 a len cap L ⟨kind, num, name⟩ (v.alloc (.cells #[.int .i64 kind, .int .i64 num, .string name] 34)) e0 e1 e2 true e4 e5 u18 u19 (.agg #[.int .i64 kind, .int .i64 num, .string name]) (.slice (some ⟨v.heap.size, 0, none⟩) 1 1) u22 u7 v.heap.size
          have y := x.grow ((Below.refl _ _).alloc (Nat.le_refl _) (.cells #[.int .i64 kind, .int .i64 num, .string name] 34))
          exact { y with f3 := fun _ _ => ⟨rfl, cvs_new v ⟨kind, num, name⟩ (HFL.out ⟨kind, num, name⟩ (by simp))⟩ }
        · have h1 := x.f1 he.1 hu
          obtain ⟨h3, h4⟩ := x.f3 he.2.1 hu
          subst h3
          refine append_cvs rfl _ _ rfl w3.heap.size u19 L (by go_simp) h1 (some ⟨gb, 0, none⟩) 1 1 [⟨kind, num, name⟩] (by go_simp) h4 (by have := HL.out; omega) x.bel.size ?_
          intro v' w' hf hb _
          refine hM _ _ ⟨u18, u19, u20, .slice (some ⟨gb, 0, none⟩) 1 1, v', u7, gb, by go_simp, ?_⟩
          show RW w3 a len cap L ⟨kind, num, name⟩ w' e0 e1 e2 e3 true e5 u18 u19 u20 (.slice (some ⟨gb, 0, none⟩) 1 1) v' u7 gb
          exact { bel := x.bel.trans hb, f0 := x.f0, f1 := fun _ h => (by cases h), f2 := x.f2, f3 := fun _ h => (by cases h), f4 := fun _ => hf, f5 := fun h => (by have := x.s5 h; rw [hu] at this; cases this), s5 := fun _ => rfl }
        · refine val_list rfl u22 (by go_simp) ?_
          refine hM _ _ ⟨u18, u19, u20, u21, u22, u22, gb, by go_simp, ?_⟩
          show RW w3 a len cap L ⟨kind, num, name⟩ v e0 e1 e2 e3 e4 true u18 u19 u20 u21 u22 u22 gb
          exact { x with f5 := fun _ => rfl, s5 := fun _ => he.1 }
      · intro a' v hI
        obtain ⟨u18, u19, u20, u21, u22, u7, gb, rfl, xx⟩ := hI
        have x : RW w3 a len cap L ⟨kind, num, name⟩ v true true true true true true u18 u19 u20 u21 u22 u7 gb := xx
        clear xx
        have h5 := x.f5 rfl
        subst h5
        obtain ⟨am, cm, hvm, hcm⟩ := (x.f4 rfl).cvs HFL.out
        obtain ⟨M1, hM1⟩ : ∃ M1, L ++ [(⟨kind, num, name⟩ : Cv)] = M1 := ⟨_, rfl⟩
        have hl1 : (L ++ [(⟨kind, num, name⟩ : Cv)]).length = len + 1 := by rw [List.length_append, HL.out]; rfl
        rw [hl1] at hvm hcm
        rw [hM1] at hcm
        subst hvm
        obtain ⟨b1, hA⟩ : ∃ b, allV L ⟨act, time, client, bytes, space, snap⟩ = b := ⟨_, rfl⟩
        obtain ⟨b2, hB⟩ : ∃ b, holdsV ⟨kind, num, name⟩ ⟨act, time, client, bytes, space, snap⟩ = b := ⟨_, rfl⟩
        have HM0 := Lib.hid (show allV M1 ⟨act, time, client, bytes, space, snap⟩ = (b1 && b2) by rw [← hM1, allV_snoc, hA, hB])
        have VM := Lib.hid (show Value.bool (allV M1 ⟨act, time, client, bytes, space, snap⟩) = .bool (b1 && b2) by rw [HM0.out])
        have VL := Lib.hid (show Value.bool (allV L ⟨act, time, client, bytes, space, snap⟩) = .bool b1 by rw [hA])
        have VH := Lib.hid (show Value.bool (holdsV ⟨kind, num, name⟩ ⟨act, time, client, bytes, space, snap⟩) = .bool b2 by rw [hB])
        have EX1 := Lib.hid (show Value.bool (extV M1 L) = .bool true by rw [← hM1, ext_self])
        have EX2 := Lib.hid (show Value.bool (extV L M1) = .bool false by rw [← hM1, ext_not])
        have HA := Lib.hid hA
        have HBV := Lib.hid (HB3.out.trans (x.bel.mono HB3.out.size))
        have HCV := Lib.hid (HC3.out.below x.bel HC3.out.lt)
        have HDV := Lib.hid (HD3.out.below x.bel HD3.out.lt)
        have HLV := Lib.hid (HH3.out.mono x.bel)
        have HMV := Lib.hid hcm
        clear x hcm hM1 hl1 hA hB HC3 HD3 HRC HR1 HR2 HB1 HB2
        have d0 := (HDV.out).c0
        have d1 := (HDV.out).c1
        have d2 := (HDV.out).c2
        have d3 := (HDV.out).c3
        have d4 := (HDV.out).c4
        have d5 := (HDV.out).c5
        rcases b1 with _ | _ <;> rcases b2 with _ | _
        · go_wp2_with fail
          refine (call_any am (len + 1) cm M1 ⟨act, time, client, bytes, space, snap⟩ v HMV.out HD.out).mono ?_
          rw [HM0.out]
          rintro e w5 ⟨rfl, hb5⟩
          have HB5 := Lib.hid (HBV.out.trans (hb5.mono HBV.out.size))
          have HC5 := Lib.hid (HCV.out.below hb5 HCV.out.lt)
          have HD5 := Lib.hid (HDV.out.below hb5 HDV.out.lt)
          have HL5 := Lib.hid (HLV.out.mono hb5)
          have HM5 := Lib.hid (HMV.out.mono hb5)
          clear hb5 d0 d1 d2 d3 d4 d5
          go_wp2_with fail
          have HCX := HC5
          have HDX := HD5
          have HLX := HL5
          have HMX := HM5
          have CM := Lib.hid (show ∀ v, Below w5.heap.size w5 v → Calls Try.prog 30 #[.slice am (len + 1) cm, .agg #[.int .i64 act, .int .i64 time, .int .i64 client, .int .i64 bytes, .string space, .string snap]] v (fun e v' => e = .returned (.bool (allV M1 ⟨act, time, client, bytes, space, snap⟩)) ∧ Below v.heap.size v v') from fun v hv => call_any am (len + 1) cm M1 ⟨act, time, client, bytes, space, snap⟩ v (HMX.out.mono hv) HD.out)
          have CL := Lib.hid (show ∀ v, Below w5.heap.size w5 v → Calls Try.prog 30 #[.slice a len cap, .agg #[.int .i64 act, .int .i64 time, .int .i64 client, .int .i64 bytes, .string space, .string snap]] v (fun e v' => e = .returned (.bool (allV L ⟨act, time, client, bytes, space, snap⟩)) ∧ Below v.heap.size v v') from fun v hv => call_any a len cap L ⟨act, time, client, bytes, space, snap⟩ v (HLX.out.mono hv) HD.out)
          have CE := Lib.hid (show ∀ v, Below w5.heap.size w5 v → Calls Try.prog 50 #[.slice am (len + 1) cm, .slice a len cap] v (fun e v' => e = .returned (.bool (extV M1 L)) ∧ Below v.heap.size v v') from fun v hv => cext_any am a (len + 1) len cm cap M1 L v (HMX.out.mono hv) (HLX.out.mono hv))
          have CF := Lib.hid (show ∀ v, Below w5.heap.size w5 v → Calls Try.prog 50 #[.slice a len cap, .slice am (len + 1) cm] v (fun e v' => e = .returned (.bool (extV L M1)) ∧ Below v.heap.size v v') from fun v hv => cext_any a am len (len + 1) cap cm L M1 v (HLX.out.mono hv) (HMX.out.mono hv))
          refine region_w (C := fun v => Below w5.heap.size w5 v) (by kernel_rfl) (by kernel_rfl) (Below.refl _ _).drew ?_
          repeat (first
            | (refine w_read (wanted_free rfl) ?_ ?_ ?_; rotate_left; (focus (intro v hv; have f0 := (HCX.out.below hv HCX.out.lt).c0; have f1 := (HCX.out.below hv HCX.out.lt).c1; have f2 := (HCX.out.below hv HCX.out.lt).c2; have d0 := (HDX.out.below hv HDX.out.lt).c0; have d1 := (HDX.out.below hv HDX.out.lt).c1; have d2 := (HDX.out.below hv HDX.out.lt).c2; have d3 := (HDX.out.below hv HDX.out.lt).c3; have d4 := (HDX.out.below hv HDX.out.lt).c4; have d5 := (HDX.out.below hv HDX.out.lt).c5; go_simp; rfl)); go_simp)
            | (refine w_skip ?_ ?_; (focus (go_simp; first | done | (intro h; cases h) | simp)); go_simp)
            | (refine w_read ?_ ?_ ?_ ?_; (focus (go_simp; done)); rotate_left; (focus (intro v hv; have f0 := (HCX.out.below hv HCX.out.lt).c0; have f1 := (HCX.out.below hv HCX.out.lt).c1; have f2 := (HCX.out.below hv HCX.out.lt).c2; have d0 := (HDX.out.below hv HDX.out.lt).c0; have d1 := (HDX.out.below hv HDX.out.lt).c1; have d2 := (HDX.out.below hv HDX.out.lt).c2; have d3 := (HDX.out.below hv HDX.out.lt).c3; have d4 := (HDX.out.below hv HDX.out.lt).c4; have d5 := (HDX.out.below hv HDX.out.lt).c5; go_simp; rfl)); go_simp)
            | (refine w_call ?_ 50 ?_ ?_ ?_ ?_ ?_; (focus (go_simp; done)); rotate_left; (focus (intro v; go_simp; rfl)); rotate_left; (focus (intro v hv; with_reducible exact q_grow (CE.out v hv) (by exact EX1.out) hv)); go_simp)
            | (refine w_call ?_ 50 ?_ ?_ ?_ ?_ ?_; (focus (go_simp; done)); rotate_left; (focus (intro v; go_simp; rfl)); rotate_left; (focus (intro v hv; with_reducible exact q_grow (CF.out v hv) (by exact EX2.out) hv)); go_simp)
            | (refine w_call ?_ 30 ?_ ?_ ?_ ?_ ?_; (focus (go_simp; done)); rotate_left; (focus (intro v; go_simp; rfl)); rotate_left; (focus (intro v hv; with_reducible exact q_grow (CM.out v hv) (by exact VM.out) hv)); go_simp)
            | (refine w_call ?_ 30 ?_ ?_ ?_ ?_ ?_; (focus (go_simp; done)); rotate_left; (focus (intro v; go_simp; rfl)); rotate_left; (focus (intro v hv; with_reducible exact q_grow (CL.out v hv) (by exact VL.out) hv)); go_simp)
            | (refine w_call ?_ 28 ?_ ?_ ?_ ?_ ?_; (focus (go_simp; done)); rotate_left; (focus (intro v; go_simp; rfl)); rotate_left; (focus (intro v hv; exact q_grow (cholds ⟨kind, num, name⟩ ⟨act, time, client, bytes, space, snap⟩ v HC.out HD.out) (by exact VH.out) hv)); go_simp)
            | (refine w_call ?_ 22 ?_ ?_ ?_ ?_ ?_; (focus (go_simp; done)); rotate_left; (focus (intro v; go_simp; rfl)); rotate_left; (focus (intro v hv; exact q_grow (awake6 v) (by rfl) hv)); go_simp))
          refine w_nil ?_
          intro w9 hb9
          go_wp2_with fail
          go_ret
          exact ⟨rfl, HB5.out.trans (hb9.mono HB5.out.size)⟩
        · go_wp2_with fail
          refine (call_any am (len + 1) cm M1 ⟨act, time, client, bytes, space, snap⟩ v HMV.out HD.out).mono ?_
          rw [HM0.out]
          rintro e w5 ⟨rfl, hb5⟩
          have HB5 := Lib.hid (HBV.out.trans (hb5.mono HBV.out.size))
          have HC5 := Lib.hid (HCV.out.below hb5 HCV.out.lt)
          have HD5 := Lib.hid (HDV.out.below hb5 HDV.out.lt)
          have HL5 := Lib.hid (HLV.out.mono hb5)
          have HM5 := Lib.hid (HMV.out.mono hb5)
          clear hb5 d0 d1 d2 d3 d4 d5
          go_wp2_with fail
          have HCX := HC5
          have HDX := HD5
          have HLX := HL5
          have HMX := HM5
          have CM := Lib.hid (show ∀ v, Below w5.heap.size w5 v → Calls Try.prog 30 #[.slice am (len + 1) cm, .agg #[.int .i64 act, .int .i64 time, .int .i64 client, .int .i64 bytes, .string space, .string snap]] v (fun e v' => e = .returned (.bool (allV M1 ⟨act, time, client, bytes, space, snap⟩)) ∧ Below v.heap.size v v') from fun v hv => call_any am (len + 1) cm M1 ⟨act, time, client, bytes, space, snap⟩ v (HMX.out.mono hv) HD.out)
          have CL := Lib.hid (show ∀ v, Below w5.heap.size w5 v → Calls Try.prog 30 #[.slice a len cap, .agg #[.int .i64 act, .int .i64 time, .int .i64 client, .int .i64 bytes, .string space, .string snap]] v (fun e v' => e = .returned (.bool (allV L ⟨act, time, client, bytes, space, snap⟩)) ∧ Below v.heap.size v v') from fun v hv => call_any a len cap L ⟨act, time, client, bytes, space, snap⟩ v (HLX.out.mono hv) HD.out)
          have CE := Lib.hid (show ∀ v, Below w5.heap.size w5 v → Calls Try.prog 50 #[.slice am (len + 1) cm, .slice a len cap] v (fun e v' => e = .returned (.bool (extV M1 L)) ∧ Below v.heap.size v v') from fun v hv => cext_any am a (len + 1) len cm cap M1 L v (HMX.out.mono hv) (HLX.out.mono hv))
          have CF := Lib.hid (show ∀ v, Below w5.heap.size w5 v → Calls Try.prog 50 #[.slice a len cap, .slice am (len + 1) cm] v (fun e v' => e = .returned (.bool (extV L M1)) ∧ Below v.heap.size v v') from fun v hv => cext_any a am len (len + 1) cap cm L M1 v (HLX.out.mono hv) (HMX.out.mono hv))
          refine region_w (C := fun v => Below w5.heap.size w5 v) (by kernel_rfl) (by kernel_rfl) (Below.refl _ _).drew ?_
          repeat (first
            | (refine w_read (wanted_free rfl) ?_ ?_ ?_; rotate_left; (focus (intro v hv; have f0 := (HCX.out.below hv HCX.out.lt).c0; have f1 := (HCX.out.below hv HCX.out.lt).c1; have f2 := (HCX.out.below hv HCX.out.lt).c2; have d0 := (HDX.out.below hv HDX.out.lt).c0; have d1 := (HDX.out.below hv HDX.out.lt).c1; have d2 := (HDX.out.below hv HDX.out.lt).c2; have d3 := (HDX.out.below hv HDX.out.lt).c3; have d4 := (HDX.out.below hv HDX.out.lt).c4; have d5 := (HDX.out.below hv HDX.out.lt).c5; go_simp; rfl)); go_simp)
            | (refine w_skip ?_ ?_; (focus (go_simp; first | done | (intro h; cases h) | simp)); go_simp)
            | (refine w_read ?_ ?_ ?_ ?_; (focus (go_simp; done)); rotate_left; (focus (intro v hv; have f0 := (HCX.out.below hv HCX.out.lt).c0; have f1 := (HCX.out.below hv HCX.out.lt).c1; have f2 := (HCX.out.below hv HCX.out.lt).c2; have d0 := (HDX.out.below hv HDX.out.lt).c0; have d1 := (HDX.out.below hv HDX.out.lt).c1; have d2 := (HDX.out.below hv HDX.out.lt).c2; have d3 := (HDX.out.below hv HDX.out.lt).c3; have d4 := (HDX.out.below hv HDX.out.lt).c4; have d5 := (HDX.out.below hv HDX.out.lt).c5; go_simp; rfl)); go_simp)
            | (refine w_call ?_ 50 ?_ ?_ ?_ ?_ ?_; (focus (go_simp; done)); rotate_left; (focus (intro v; go_simp; rfl)); rotate_left; (focus (intro v hv; with_reducible exact q_grow (CE.out v hv) (by exact EX1.out) hv)); go_simp)
            | (refine w_call ?_ 50 ?_ ?_ ?_ ?_ ?_; (focus (go_simp; done)); rotate_left; (focus (intro v; go_simp; rfl)); rotate_left; (focus (intro v hv; with_reducible exact q_grow (CF.out v hv) (by exact EX2.out) hv)); go_simp)
            | (refine w_call ?_ 30 ?_ ?_ ?_ ?_ ?_; (focus (go_simp; done)); rotate_left; (focus (intro v; go_simp; rfl)); rotate_left; (focus (intro v hv; with_reducible exact q_grow (CM.out v hv) (by exact VM.out) hv)); go_simp)
            | (refine w_call ?_ 30 ?_ ?_ ?_ ?_ ?_; (focus (go_simp; done)); rotate_left; (focus (intro v; go_simp; rfl)); rotate_left; (focus (intro v hv; with_reducible exact q_grow (CL.out v hv) (by exact VL.out) hv)); go_simp)
            | (refine w_call ?_ 28 ?_ ?_ ?_ ?_ ?_; (focus (go_simp; done)); rotate_left; (focus (intro v; go_simp; rfl)); rotate_left; (focus (intro v hv; exact q_grow (cholds ⟨kind, num, name⟩ ⟨act, time, client, bytes, space, snap⟩ v HC.out HD.out) (by exact VH.out) hv)); go_simp)
            | (refine w_call ?_ 22 ?_ ?_ ?_ ?_ ?_; (focus (go_simp; done)); rotate_left; (focus (intro v; go_simp; rfl)); rotate_left; (focus (intro v hv; exact q_grow (awake6 v) (by rfl) hv)); go_simp))
          refine w_nil ?_
          intro w9 hb9
          go_wp2_with fail
          go_ret
          exact ⟨rfl, HB5.out.trans (hb9.mono HB5.out.size)⟩
        · go_wp2_with fail
          refine (call_any am (len + 1) cm M1 ⟨act, time, client, bytes, space, snap⟩ v HMV.out HD.out).mono ?_
          rw [HM0.out]
          rintro e w5 ⟨rfl, hb5⟩
          have HB5 := Lib.hid (HBV.out.trans (hb5.mono HBV.out.size))
          have HC5 := Lib.hid (HCV.out.below hb5 HCV.out.lt)
          have HD5 := Lib.hid (HDV.out.below hb5 HDV.out.lt)
          have HL5 := Lib.hid (HLV.out.mono hb5)
          have HM5 := Lib.hid (HMV.out.mono hb5)
          clear hb5 d0 d1 d2 d3 d4 d5
          go_wp2_with fail
          have HCX := HC5
          have HDX := HD5
          have HLX := HL5
          have HMX := HM5
          have CM := Lib.hid (show ∀ v, Below w5.heap.size w5 v → Calls Try.prog 30 #[.slice am (len + 1) cm, .agg #[.int .i64 act, .int .i64 time, .int .i64 client, .int .i64 bytes, .string space, .string snap]] v (fun e v' => e = .returned (.bool (allV M1 ⟨act, time, client, bytes, space, snap⟩)) ∧ Below v.heap.size v v') from fun v hv => call_any am (len + 1) cm M1 ⟨act, time, client, bytes, space, snap⟩ v (HMX.out.mono hv) HD.out)
          have CL := Lib.hid (show ∀ v, Below w5.heap.size w5 v → Calls Try.prog 30 #[.slice a len cap, .agg #[.int .i64 act, .int .i64 time, .int .i64 client, .int .i64 bytes, .string space, .string snap]] v (fun e v' => e = .returned (.bool (allV L ⟨act, time, client, bytes, space, snap⟩)) ∧ Below v.heap.size v v') from fun v hv => call_any a len cap L ⟨act, time, client, bytes, space, snap⟩ v (HLX.out.mono hv) HD.out)
          have CE := Lib.hid (show ∀ v, Below w5.heap.size w5 v → Calls Try.prog 50 #[.slice am (len + 1) cm, .slice a len cap] v (fun e v' => e = .returned (.bool (extV M1 L)) ∧ Below v.heap.size v v') from fun v hv => cext_any am a (len + 1) len cm cap M1 L v (HMX.out.mono hv) (HLX.out.mono hv))
          have CF := Lib.hid (show ∀ v, Below w5.heap.size w5 v → Calls Try.prog 50 #[.slice a len cap, .slice am (len + 1) cm] v (fun e v' => e = .returned (.bool (extV L M1)) ∧ Below v.heap.size v v') from fun v hv => cext_any a am len (len + 1) cap cm L M1 v (HLX.out.mono hv) (HMX.out.mono hv))
          refine region_w (C := fun v => Below w5.heap.size w5 v) (by kernel_rfl) (by kernel_rfl) (Below.refl _ _).drew ?_
          repeat (first
            | (refine w_read (wanted_free rfl) ?_ ?_ ?_; rotate_left; (focus (intro v hv; have f0 := (HCX.out.below hv HCX.out.lt).c0; have f1 := (HCX.out.below hv HCX.out.lt).c1; have f2 := (HCX.out.below hv HCX.out.lt).c2; have d0 := (HDX.out.below hv HDX.out.lt).c0; have d1 := (HDX.out.below hv HDX.out.lt).c1; have d2 := (HDX.out.below hv HDX.out.lt).c2; have d3 := (HDX.out.below hv HDX.out.lt).c3; have d4 := (HDX.out.below hv HDX.out.lt).c4; have d5 := (HDX.out.below hv HDX.out.lt).c5; go_simp; rfl)); go_simp)
            | (refine w_skip ?_ ?_; (focus (go_simp; first | done | (intro h; cases h) | simp)); go_simp)
            | (refine w_read ?_ ?_ ?_ ?_; (focus (go_simp; done)); rotate_left; (focus (intro v hv; have f0 := (HCX.out.below hv HCX.out.lt).c0; have f1 := (HCX.out.below hv HCX.out.lt).c1; have f2 := (HCX.out.below hv HCX.out.lt).c2; have d0 := (HDX.out.below hv HDX.out.lt).c0; have d1 := (HDX.out.below hv HDX.out.lt).c1; have d2 := (HDX.out.below hv HDX.out.lt).c2; have d3 := (HDX.out.below hv HDX.out.lt).c3; have d4 := (HDX.out.below hv HDX.out.lt).c4; have d5 := (HDX.out.below hv HDX.out.lt).c5; go_simp; rfl)); go_simp)
            | (refine w_call ?_ 50 ?_ ?_ ?_ ?_ ?_; (focus (go_simp; done)); rotate_left; (focus (intro v; go_simp; rfl)); rotate_left; (focus (intro v hv; with_reducible exact q_grow (CE.out v hv) (by exact EX1.out) hv)); go_simp)
            | (refine w_call ?_ 50 ?_ ?_ ?_ ?_ ?_; (focus (go_simp; done)); rotate_left; (focus (intro v; go_simp; rfl)); rotate_left; (focus (intro v hv; with_reducible exact q_grow (CF.out v hv) (by exact EX2.out) hv)); go_simp)
            | (refine w_call ?_ 30 ?_ ?_ ?_ ?_ ?_; (focus (go_simp; done)); rotate_left; (focus (intro v; go_simp; rfl)); rotate_left; (focus (intro v hv; with_reducible exact q_grow (CM.out v hv) (by exact VM.out) hv)); go_simp)
            | (refine w_call ?_ 30 ?_ ?_ ?_ ?_ ?_; (focus (go_simp; done)); rotate_left; (focus (intro v; go_simp; rfl)); rotate_left; (focus (intro v hv; with_reducible exact q_grow (CL.out v hv) (by exact VL.out) hv)); go_simp)
            | (refine w_call ?_ 28 ?_ ?_ ?_ ?_ ?_; (focus (go_simp; done)); rotate_left; (focus (intro v; go_simp; rfl)); rotate_left; (focus (intro v hv; exact q_grow (cholds ⟨kind, num, name⟩ ⟨act, time, client, bytes, space, snap⟩ v HC.out HD.out) (by exact VH.out) hv)); go_simp)
            | (refine w_call ?_ 22 ?_ ?_ ?_ ?_ ?_; (focus (go_simp; done)); rotate_left; (focus (intro v; go_simp; rfl)); rotate_left; (focus (intro v hv; exact q_grow (awake6 v) (by rfl) hv)); go_simp))
          refine w_nil ?_
          intro w9 hb9
          go_wp2_with fail
          go_ret
          exact ⟨rfl, HB5.out.trans (hb9.mono HB5.out.size)⟩
        · go_wp2_with fail
          refine (call_any am (len + 1) cm M1 ⟨act, time, client, bytes, space, snap⟩ v HMV.out HD.out).mono ?_
          rw [HM0.out]
          rintro e w5 ⟨rfl, hb5⟩
          have HB5 := Lib.hid (HBV.out.trans (hb5.mono HBV.out.size))
          have HC5 := Lib.hid (HCV.out.below hb5 HCV.out.lt)
          have HD5 := Lib.hid (HDV.out.below hb5 HDV.out.lt)
          have HL5 := Lib.hid (HLV.out.mono hb5)
          have HM5 := Lib.hid (HMV.out.mono hb5)
          clear hb5 d0 d1 d2 d3 d4 d5
          have d0 := HD5.out.c0; have d1 := HD5.out.c1; have d2 := HD5.out.c2; have d3 := HD5.out.c3; have d4 := HD5.out.c4; have d5 := HD5.out.c5
          go_wp2_with fail
          refine (call_any a len cap L ⟨act, time, client, bytes, space, snap⟩ w5 HL5.out HD.out).mono ?_
          rw [HA.out]
          rintro e w6 ⟨rfl, hb6⟩
          have HB6 := Lib.hid (HB5.out.trans (hb6.mono HB5.out.size))
          have HC6 := Lib.hid (HC5.out.below hb6 HC5.out.lt)
          have HD6 := Lib.hid (HD5.out.below hb6 HD5.out.lt)
          have HL6 := Lib.hid (HL5.out.mono hb6)
          have HM6 := Lib.hid (HM5.out.mono hb6)
          clear hb6 d0 d1 d2 d3 d4 d5
          go_wp2_with fail
          have HCX := HC6
          have HDX := HD6
          have HLX := HL6
          have HMX := HM6
          have CM := Lib.hid (show ∀ v, Below w6.heap.size w6 v → Calls Try.prog 30 #[.slice am (len + 1) cm, .agg #[.int .i64 act, .int .i64 time, .int .i64 client, .int .i64 bytes, .string space, .string snap]] v (fun e v' => e = .returned (.bool (allV M1 ⟨act, time, client, bytes, space, snap⟩)) ∧ Below v.heap.size v v') from fun v hv => call_any am (len + 1) cm M1 ⟨act, time, client, bytes, space, snap⟩ v (HMX.out.mono hv) HD.out)
          have CL := Lib.hid (show ∀ v, Below w6.heap.size w6 v → Calls Try.prog 30 #[.slice a len cap, .agg #[.int .i64 act, .int .i64 time, .int .i64 client, .int .i64 bytes, .string space, .string snap]] v (fun e v' => e = .returned (.bool (allV L ⟨act, time, client, bytes, space, snap⟩)) ∧ Below v.heap.size v v') from fun v hv => call_any a len cap L ⟨act, time, client, bytes, space, snap⟩ v (HLX.out.mono hv) HD.out)
          have CE := Lib.hid (show ∀ v, Below w6.heap.size w6 v → Calls Try.prog 50 #[.slice am (len + 1) cm, .slice a len cap] v (fun e v' => e = .returned (.bool (extV M1 L)) ∧ Below v.heap.size v v') from fun v hv => cext_any am a (len + 1) len cm cap M1 L v (HMX.out.mono hv) (HLX.out.mono hv))
          have CF := Lib.hid (show ∀ v, Below w6.heap.size w6 v → Calls Try.prog 50 #[.slice a len cap, .slice am (len + 1) cm] v (fun e v' => e = .returned (.bool (extV L M1)) ∧ Below v.heap.size v v') from fun v hv => cext_any a am len (len + 1) cap cm L M1 v (HLX.out.mono hv) (HMX.out.mono hv))
          refine region_w (C := fun v => Below w6.heap.size w6 v) (by kernel_rfl) (by kernel_rfl) (Below.refl _ _).drew ?_
          repeat (first
            | (refine w_read (wanted_free rfl) ?_ ?_ ?_; rotate_left; (focus (intro v hv; have f0 := (HCX.out.below hv HCX.out.lt).c0; have f1 := (HCX.out.below hv HCX.out.lt).c1; have f2 := (HCX.out.below hv HCX.out.lt).c2; have d0 := (HDX.out.below hv HDX.out.lt).c0; have d1 := (HDX.out.below hv HDX.out.lt).c1; have d2 := (HDX.out.below hv HDX.out.lt).c2; have d3 := (HDX.out.below hv HDX.out.lt).c3; have d4 := (HDX.out.below hv HDX.out.lt).c4; have d5 := (HDX.out.below hv HDX.out.lt).c5; go_simp; rfl)); go_simp)
            | (refine w_skip ?_ ?_; (focus (go_simp; first | done | (intro h; cases h) | simp)); go_simp)
            | (refine w_read ?_ ?_ ?_ ?_; (focus (go_simp; done)); rotate_left; (focus (intro v hv; have f0 := (HCX.out.below hv HCX.out.lt).c0; have f1 := (HCX.out.below hv HCX.out.lt).c1; have f2 := (HCX.out.below hv HCX.out.lt).c2; have d0 := (HDX.out.below hv HDX.out.lt).c0; have d1 := (HDX.out.below hv HDX.out.lt).c1; have d2 := (HDX.out.below hv HDX.out.lt).c2; have d3 := (HDX.out.below hv HDX.out.lt).c3; have d4 := (HDX.out.below hv HDX.out.lt).c4; have d5 := (HDX.out.below hv HDX.out.lt).c5; go_simp; rfl)); go_simp)
            | (refine w_call ?_ 50 ?_ ?_ ?_ ?_ ?_; (focus (go_simp; done)); rotate_left; (focus (intro v; go_simp; rfl)); rotate_left; (focus (intro v hv; with_reducible exact q_grow (CE.out v hv) (by exact EX1.out) hv)); go_simp)
            | (refine w_call ?_ 50 ?_ ?_ ?_ ?_ ?_; (focus (go_simp; done)); rotate_left; (focus (intro v; go_simp; rfl)); rotate_left; (focus (intro v hv; with_reducible exact q_grow (CF.out v hv) (by exact EX2.out) hv)); go_simp)
            | (refine w_call ?_ 30 ?_ ?_ ?_ ?_ ?_; (focus (go_simp; done)); rotate_left; (focus (intro v; go_simp; rfl)); rotate_left; (focus (intro v hv; with_reducible exact q_grow (CM.out v hv) (by exact VM.out) hv)); go_simp)
            | (refine w_call ?_ 30 ?_ ?_ ?_ ?_ ?_; (focus (go_simp; done)); rotate_left; (focus (intro v; go_simp; rfl)); rotate_left; (focus (intro v hv; with_reducible exact q_grow (CL.out v hv) (by exact VL.out) hv)); go_simp)
            | (refine w_call ?_ 28 ?_ ?_ ?_ ?_ ?_; (focus (go_simp; done)); rotate_left; (focus (intro v; go_simp; rfl)); rotate_left; (focus (intro v hv; exact q_grow (cholds ⟨kind, num, name⟩ ⟨act, time, client, bytes, space, snap⟩ v HC.out HD.out) (by exact VH.out) hv)); go_simp)
            | (refine w_call ?_ 22 ?_ ?_ ?_ ?_ ?_; (focus (go_simp; done)); rotate_left; (focus (intro v; go_simp; rfl)); rotate_left; (focus (intro v hv; exact q_grow (awake6 v) (by rfl) hv)); go_simp))
          refine w_nil ?_
          intro w9 hb9
          go_wp2_with fail
          go_ret
          exact ⟨rfl, HB6.out.trans (hb9.mono HB6.out.size)⟩

end Go.Proofs.Ytnmcfokckdgbaaa.W
