/- THE LAW CaveatCodes: any caveats have the bytes of the document, and any bytes are those that it says, or are none. -/
import Derived.Test.YtagblhkihammdaaCavJ
import Derived.Test.YtagblhkihammdaaTail
import Derived.Test.YtagblhkihammdaaQ
namespace Go.Proofs.Ytagblhkihammdaa.W
open Go.ChangeShapes Go.WideShapes Go.ChangeAt Go.RowKit

theorem wanted_of {ops : Array Oper} {o : Oper} {a : Act} (k : Nat) (want : Bool) (t : Tmp) (hgd : o.guard = some (k, want)) (hdst : (ops[k]?).bind (·.dst) = some t) (hv : a.eval (.tmp t) = .bool want) : Region.wanted o (yielded ops a.tmps) = true := by
  have hv2 : a.tmps[t]? = some (.bool want) := by
    have h : a.tmps.getD t undef = .bool want := hv
    rw [Array.getD_eq_getD_getElem?] at h
    cases hq : a.tmps[t]? with
    | none => rw [hq] at h; cases h
    | some x => rw [hq] at h; simp at h; rw [h]
  simp [Region.wanted, hgd, yielded, hdst, hv2]
theorem val_listg {P : Program} {ops : Array Oper} {rest : List Oper} {o : Oper} {a : Act} {w : World} {Q : Exit → Act → World → Prop} (k : Nat) (want : Bool) (t : Tmp) (hgd : o.guard = some (k, want)) (hdst : (ops[k]?).bind (·.dst) = some t) (hv : a.eval (.tmp t) = .bool want) (v : Value) (hrun : (execOp a.eval o).run P w = .ok (.value v) w)
    (h : wpList P ops Q rest (a.put o.dst v) w) : wpList P ops Q (o :: rest) a w := by
  have hw := wanted_of k want t hgd hdst hv
  refine wpList_step fun K hK => ?_
  simp only [hw, if_true]
  unfold Oper.wp
  rw [hrun]
  exact hK _ _ h
theorem call_listg {P : Program} {ops : Array Oper} {Q : Exit → Act → World → Prop} {o : Oper} {rest : List Oper} {a : Act} {w : World} (k : Nat) (want : Bool) (t : Tmp) (hgd : o.guard = some (k, want)) (hdst : (ops[k]?).bind (·.dst) = some t) (hv : a.eval (.tmp t) = .bool want) (f : FuncId) (args : Array Value) (hrun : (execOp a.eval o).run P w = .ok (.enter f args) w)
    (R : Value → World → Prop) (hc : Calls P f args w fun e w' => ∃ v, e = .returned v ∧ R v w') (h : ∀ v w', R v w' → wpList P ops Q rest (a.put o.dst v) w') : wpList P ops Q (o :: rest) a w := by
  have hw := wanted_of k want t hgd hdst hv
  refine wpList_step fun K hK => ?_
  simp only [hw, if_true]
  unfold Oper.wp
  rw [hrun, Oper.upon_enter]
  refine hc.mono fun e w'' hh => ?_
  obtain ⟨v, rfl, hr⟩ := hh
  exact hK _ _ (h v w'' hr)

/-- a value that is a slice which reads as these bytes -/
def RS (w : World) (u : Value) (l : List UInt8) : Prop := ∃ p n c, u = .slice p n c ∧ Rd w p n c l
theorem RS.mono {w w' : World} {u : Value} {l : List UInt8} (h : RS w u l) (hb : Below w.heap.size w w') : RS w' u l := by
  obtain ⟨p, n, c, rfl, hr⟩ := h
  exact ⟨p, n, c, rfl, hr.mono hb⟩
theorem Fr.rs {w : World} {base : Nat} {v : Value} {l : List UInt8} (h : Fr w base v l) : RS w v l := by
  obtain ⟨a, c, hv, hr⟩ := h.form' _ rfl
  exact ⟨a, _, c, hv, hr⟩

/-- what has been done of the law's first test -/
structure RC (w0 : World) (vb vl vc : Value) (PL CL : List UInt8) (v : World) (e0 e1 e2 e3 e4 e5 e6 e7 e8 e9 e10 e11 e12 e13 e14 e15 : Bool) (u30 u31 u32 u33 u34 u35 u36 u37 u38 u39 u40 u41 u42 u43 u44 u45 : Value) : Prop where
  bel : Below w0.heap.size w0 v
  f0 : e0 = true → u30 = vb
  f1 : e1 = true → u31 = vc
  f2 : e2 = true → RS v u32 PL
  f3 : e3 = true → u33 = vb
  f4 : e4 = true → u34 = vc
  f5 : e5 = true → RS v u35 PL
  f6 : e6 = true → u36 = .bool true
  f7 : e7 = true → u37 = .bool false
  f8 : e8 = true → u38 = .bool false
  f9 : e9 = true → u39 = vl
  f10 : e10 = true → RS v u40 CL
  f11 : e11 = true → u41 = vl
  f12 : e12 = true → RS v u42 CL
  f13 : e13 = true → u43 = .bool true
  f14 : e14 = true → u44 = .bool false
  f15 : e15 = true → u45 = .bool false
theorem RC.grow {w0 : World} {vb vl vc : Value} {PL CL : List UInt8} {v v' : World} {e0 e1 e2 e3 e4 e5 e6 e7 e8 e9 e10 e11 e12 e13 e14 e15 : Bool} {u30 u31 u32 u33 u34 u35 u36 u37 u38 u39 u40 u41 u42 u43 u44 u45 : Value}
    (x : RC w0 vb vl vc PL CL v e0 e1 e2 e3 e4 e5 e6 e7 e8 e9 e10 e11 e12 e13 e14 e15 u30 u31 u32 u33 u34 u35 u36 u37 u38 u39 u40 u41 u42 u43 u44 u45) (hb : Below v.heap.size v v') :
    RC w0 vb vl vc PL CL v' e0 e1 e2 e3 e4 e5 e6 e7 e8 e9 e10 e11 e12 e13 e14 e15 u30 u31 u32 u33 u34 u35 u36 u37 u38 u39 u40 u41 u42 u43 u44 u45 :=
  { x with bel := x.bel.trans (hb.mono x.bel.size), f2 := fun h => (x.f2 h).mono hb, f5 := fun h => (x.f5 h).mono hb, f10 := fun h => (x.f10 h).mono hb, f12 := fun h => (x.f12 h).mono hb }

set_option maxRecDepth 100000 in
set_option maxHeartbeats 8000000 in
theorem law_CaveatCodes (c : Cv) (a : Option Addr) (len cap : Nat) (L : List Cv) (a1 : Option Addr) (len1 cap1 : Nat) (zs : List Int) (w : World) (hc : c.fit) (h : Cvs w a len cap L) (w1 : IsRow .u8 w a1 len1 cap1 zs) :
    Calls Try.prog 3 #[c.val, .slice a len cap, .slice a1 len1 cap1] w fun e w' => e = .returned (.bool true) ∧ Below w.heap.size w w' := by
  have hr := Rd.of_row w1
  obtain ⟨b, hb⟩ : ∃ l, (zs.take len1).map (fun n => UInt8.ofNat n.toNat) = l := ⟨_, rfl⟩
  rw [hb] at hr
  clear hb w1
  have hle1 := hr.hle
  have hmax1 := hr.hmax
  have HRB := Lib.hid hr
  have HC := Lib.hid hc
  have H := Lib.hid h
  have hlen := h.hlen
  have hfitL := h.hfit
  obtain ⟨kind, num, name⟩ := c
  have hn : name.size ≤ maxLen := hc.2.2
  unfold maxLen at hn
  clear h hr hc
  rcases hfew : fewV L with _ | _
  · have FEW := Lib.hid hfew
    clear hfew hfitL
    go_enter Try.func3, Try.ntmps3
    go_wp2_with (first
      | (with_reducible refine box_row (o := ⟨some 3, _, _, _, _, _⟩) rfl _ _ rfl [.int .i64 kind, .int .i64 num, .string name] rfl ?_; intro w1 hr1 hb1 hz1; have HR1 := Lib.hid hr1; have HB1 := Lib.hid hb1; clear hr1 hb1 hz1)
      | (go_at_call 5; refine (few_any a len cap L _ (H.out.mono HB1.out)).mono ?_; rw [FEW.out]; rintro e w3 ⟨rfl, hb3⟩; have HB3 := Lib.hid (HB1.out.trans (hb3.mono HB1.out.size)); have HR3 := Lib.hid (HR1.out.below hb3 HR1.out.lt); clear hb3; have f0 := HR3.out.c0; have f1 := HR3.out.c1; have f2 := HR3.out.c2)
      | (go_at_call 6; refine (awake6 _).mono ?_; rintro e w' ⟨rfl, hb⟩))
    go_ret
    exact ⟨rfl, HB3.out.trans ((by assumption : Below w3.heap.size w3 _).mono HB3.out.size)⟩
  have FEW := Lib.hid hfew
  have hl30 : len ≤ 30 := by
    unfold fewV at hfew
    simp only [Bool.and_eq_true, decide_eq_true_eq] at hfew
    omega
  have HL := Lib.hid hlen
  by_cases h2 : 200 < name.size
  · clear hfew hfitL hlen
    go_enter Try.func3, Try.ntmps3
    go_wp2_with (first
      | (with_reducible refine box_row (o := ⟨some 3, _, _, _, _, _⟩) rfl _ _ rfl [.int .i64 kind, .int .i64 num, .string name] rfl ?_; intro w1 hr1 hb1 hz1; have HR1 := Lib.hid hr1; have HB1 := Lib.hid hb1; clear hr1 hb1 hz1)
      | (go_at_call 5; refine (few_any a len cap L _ (H.out.mono HB1.out)).mono ?_; rw [FEW.out]; rintro e w3 ⟨rfl, hb3⟩; have HB3 := Lib.hid (HB1.out.trans (hb3.mono HB1.out.size)); have HR3 := Lib.hid (HR1.out.below hb3 HR1.out.lt); clear hb3; have f0 := HR3.out.c0; have f1 := HR3.out.c1; have f2 := HR3.out.c2)
      | (go_at_call 6; refine (awake6 _).mono ?_; rintro e w' ⟨rfl, hb⟩))
    go_ret
    exact ⟨rfl, HB3.out.trans ((by assumption : Below w3.heap.size w3 _).mono HB3.out.size)⟩
  by_cases h3 : 2000 < len1
  · clear hfew hfitL hlen
    go_enter Try.func3, Try.ntmps3
    go_wp2_with (first
      | (with_reducible refine box_row (o := ⟨some 3, _, _, _, _, _⟩) rfl _ _ rfl [.int .i64 kind, .int .i64 num, .string name] rfl ?_; intro w1 hr1 hb1 hz1; have HR1 := Lib.hid hr1; have HB1 := Lib.hid hb1; clear hr1 hb1 hz1)
      | (go_at_call 5; refine (few_any a len cap L _ (H.out.mono HB1.out)).mono ?_; rw [FEW.out]; rintro e w3 ⟨rfl, hb3⟩; have HB3 := Lib.hid (HB1.out.trans (hb3.mono HB1.out.size)); have HR3 := Lib.hid (HR1.out.below hb3 HR1.out.lt); clear hb3; have f0 := HR3.out.c0; have f1 := HR3.out.c1; have f2 := HR3.out.c2)
      | (go_at_call 6; refine (awake6 _).mono ?_; rintro e w' ⟨rfl, hb⟩))
    go_ret
    exact ⟨rfl, HB3.out.trans ((by assumption : Below w3.heap.size w3 _).mono HB3.out.size)⟩
  obtain ⟨PL, hPL⟩ : ∃ PL, b ++ putA ⟨kind, num, name⟩ = PL := ⟨_, rfl⟩
  obtain ⟨CL, hCL⟩ : ∃ CL, codeL L = CL := ⟨_, rfl⟩
  have HPL := Lib.hid hPL
  have HCL := Lib.hid hCL
  obtain ⟨Y, hY⟩ : ∃ Y, (parseV b).1 = Y := ⟨_, rfl⟩
  obtain ⟨fv, hfv⟩ : ∃ f, (parseV b).2 = f := ⟨_, rfl⟩
  have hy8 := parse_len b
  have hyf := parse_fit b
  rw [hY] at hy8 hyf
  obtain ⟨ny, hny⟩ : ∃ ny, Y.length = ny := ⟨_, rfl⟩
  have HY := Lib.hid hY
  have HFV := Lib.hid hfv
  have HYF := Lib.hid hyf
  have HNY := Lib.hid hny
  have hf1 := readS_fit b 0
  obtain ⟨R1, hR1⟩ : ∃ R, (readS b 0).1 = R := ⟨_, rfl⟩
  obtain ⟨l1, hl1⟩ : ∃ l, (readS b 0).2.1 = l := ⟨_, rfl⟩
  obtain ⟨e1, he1⟩ : ∃ e, (readS b 0).2.2 = e := ⟨_, rfl⟩
  rw [hR1] at hf1
  obtain ⟨k1, n1, s1⟩ := R1
  have HS1 := Lib.hid hR1
  have HS2 := Lib.hid hl1
  have HS3 := Lib.hid he1
  have HF1 := Lib.hid hf1
  clear hY hfv hy8 hyf hny hf1 hR1 hl1 he1
  clear hfew hfitL hlen hPL hCL
  go_enter Try.func3, Try.ntmps3
  go_wp2_with (first
      | (with_reducible refine box_row (o := ⟨some 3, _, _, _, _, _⟩) rfl _ _ rfl [.int .i64 kind, .int .i64 num, .string name] rfl ?_; intro w1 hr1 hb1 hz1; have HR1 := Lib.hid hr1; have HB1 := Lib.hid hb1; clear hr1 hb1 hz1)
      | (go_at_call 5; refine (few_any a len cap L _ (H.out.mono HB1.out)).mono ?_; rw [FEW.out]; rintro e w3 ⟨rfl, hb3⟩; have HB3 := Lib.hid (HB1.out.trans (hb3.mono HB1.out.size)); have HR3 := Lib.hid (HR1.out.below hb3 HR1.out.lt); clear hb3; have f0 := HR3.out.c0; have f1 := HR3.out.c1; have f2 := HR3.out.c2))
  have HX3 := Lib.hid (H.out.mono HB3.out)
  have HRB3 := Lib.hid (HRB.out.mono HB3.out)
  clear f0 f1 f2
  refine wp_region_inv (by kernel_rfl) (by kernel_rfl) (fun a0 d a' v => ∃ u30 u31 u32 u33 u34 u35 u36 u37 u38 u39 u40 u41 u42 u43 u44 u45, a' = (((((((((((((((a0.put (some 30) u30).put (some 31) u31).put (some 32) u32).put (some 33) u33).put (some 34) u34).put (some 35) u35).put (some 36) u36).put (some 37) u37).put (some 38) u38).put (some 39) u39).put (some 40) u40).put (some 41) u41).put (some 42) u42).put (some 43) u43).put (some 44) u44).put (some 45) u45 ∧
    RC w3 (.slice a1 len1 cap1) (.slice a len cap) (.agg #[.int .i64 kind, .int .i64 num, .string name]) PL CL v (d.getD 0 false) (d.getD 1 false) (d.getD 2 false) (d.getD 3 false) (d.getD 4 false) (d.getD 5 false) (d.getD 6 false) (d.getD 7 false) (d.getD 8 false) (d.getD 9 false) (d.getD 10 false) (d.getD 11 false) (d.getD 12 false) (d.getD 13 false) (d.getD 14 false) (d.getD 15 false) u30 u31 u32 u33 u34 u35 u36 u37 u38 u39 u40 u41 u42 u43 u44 u45) ?_ ?_ ?_
  · refine ⟨undef, undef, undef, undef, undef, undef, undef, undef, undef, undef, undef, undef, undef, undef, undef, undef, by go_simp, ?_⟩
    exact { bel := (Below.refl _ _).drew, f0 := (by intro h; cases h), f1 := (by intro h; cases h), f2 := (by intro h; cases h), f3 := (by intro h; cases h), f4 := (by intro h; cases h), f5 := (by intro h; cases h), f6 := (by intro h; cases h), f7 := (by intro h; cases h), f8 := (by intro h; cases h), f9 := (by intro h; cases h), f10 := (by intro h; cases h), f11 := (by intro h; cases h), f12 := (by intro h; cases h), f13 := (by intro h; cases h), f14 := (by intro h; cases h), f15 := (by intro h; cases h) }
  · intro d a' v i o hs hI ho hu he M hM
    obtain ⟨u30, u31, u32, u33, u34, u35, u36, u37, u38, u39, u40, u41, u42, u43, u44, u45, hA, x⟩ := hI
    obtain ⟨dl⟩ := d
    match dl, hs with
    | [e0, e1, e2, e3, e4, e5, e6, e7, e8, e9, e10, e11, e12, e13, e14, e15], _ =>
    have x : RC w3 (.slice a1 len1 cap1) (.slice a len cap) (.agg #[.int .i64 kind, .int .i64 num, .string name]) PL CL v e0 e1 e2 e3 e4 e5 e6 e7 e8 e9 e10 e11 e12 e13 e14 e15 u30 u31 u32 u33 u34 u35 u36 u37 u38 u39 u40 u41 u42 u43 u44 u45 := x
    have hrow := HR3.out.below x.bel HR3.out.lt
    have hi : i < 16 := by have := (List.getElem?_eq_some_iff.1 ho).1; simpa using this
    have hi' : i = 0 ∨ i = 1 ∨ i = 2 ∨ i = 3 ∨ i = 4 ∨ i = 5 ∨ i = 6 ∨ i = 7 ∨ i = 8 ∨ i = 9 ∨ i = 10 ∨ i = 11 ∨ i = 12 ∨ i = 13 ∨ i = 14 ∨ i = 15 := by omega
    rcases hi' with rfl | rfl | rfl | rfl | rfl | rfl | rfl | rfl | rfl | rfl | rfl | rfl | rfl | rfl | rfl | rfl
    all_goals
      simp only [List.getElem?_cons_zero, List.getElem?_cons_succ, Option.some.injEq] at ho
      subst ho
      simp [Region.binds] at he hu
    · subst hA
      refine val_list rfl (.slice a1 len1 cap1) (by go_simp) ?_
      refine hM _ _ ⟨(.slice a1 len1 cap1), u31, u32, u33, u34, u35, u36, u37, u38, u39, u40, u41, u42, u43, u44, u45, by go_simp, ?_⟩
      show RC w3 (.slice a1 len1 cap1) (.slice a len cap) (.agg #[.int .i64 kind, .int .i64 num, .string name]) PL CL v true e1 e2 e3 e4 e5 e6 e7 e8 e9 e10 e11 e12 e13 e14 e15 (.slice a1 len1 cap1) u31 u32 u33 u34 u35 u36 u37 u38 u39 u40 u41 u42 u43 u44 u45
      exact { x with f0 := fun _ => rfl }
    · subst hA
      refine load_row rfl _ _ rfl w.heap.size (by go_simp) 23 _ _ hrow Try.underlying23 rfl cv_size ?_
      refine hM _ _ ⟨u30, (.agg #[.int .i64 kind, .int .i64 num, .string name]), u32, u33, u34, u35, u36, u37, u38, u39, u40, u41, u42, u43, u44, u45, by go_simp, ?_⟩
      show RC w3 (.slice a1 len1 cap1) (.slice a len cap) (.agg #[.int .i64 kind, .int .i64 num, .string name]) PL CL v e0 true e2 e3 e4 e5 e6 e7 e8 e9 e10 e11 e12 e13 e14 e15 u30 (.agg #[.int .i64 kind, .int .i64 num, .string name]) u32 u33 u34 u35 u36 u37 u38 u39 u40 u41 u42 u43 u44 u45
      exact { x with f1 := fun _ => rfl }
    · subst hA
      have q0 : e0 = true := by first | exact he | exact he.1 | exact he.2 | exact he.2.1 | exact he.2.2 | exact he.2.2.1 | exact he.2.2.2
      have g0 := x.f0 q0
      subst g0
      have q1 : e1 = true := by first | exact he | exact he.1 | exact he.2 | exact he.2.1 | exact he.2.2 | exact he.2.2.1 | exact he.2.2.2
      have g1 := x.f1 q1
      subst g1
      refine call_list rfl 8 #[.slice a1 len1 cap1, .agg #[.int .i64 kind, .int .i64 num, .string name]] (by go_simp) (fun r v' => RS v' r PL ∧ Below v.heap.size v v') (by have key := cput_any ⟨kind, num, name⟩ a1 len1 cap1 b v HC.out (HRB3.out.mono x.bel) (by omega); rw [HPL.out] at key; exact key.mono fun e v' ⟨r, he, hf, hb⟩ => ⟨r, he, hf.rs, hb⟩) ?_
      rintro r v' ⟨hrs, hb⟩
      refine hM _ _ ⟨(.slice a1 len1 cap1), (.agg #[.int .i64 kind, .int .i64 num, .string name]), r, u33, u34, u35, u36, u37, u38, u39, u40, u41, u42, u43, u44, u45, by go_simp, ?_⟩
      show RC w3 (.slice a1 len1 cap1) (.slice a len cap) (.agg #[.int .i64 kind, .int .i64 num, .string name]) PL CL v' e0 e1 true e3 e4 e5 e6 e7 e8 e9 e10 e11 e12 e13 e14 e15 (.slice a1 len1 cap1) (.agg #[.int .i64 kind, .int .i64 num, .string name]) r u33 u34 u35 u36 u37 u38 u39 u40 u41 u42 u43 u44 u45
      have y := x.grow hb
      exact { y with f2 := fun _ => hrs }
    · subst hA
      refine val_list rfl (.slice a1 len1 cap1) (by go_simp) ?_
      refine hM _ _ ⟨u30, u31, u32, (.slice a1 len1 cap1), u34, u35, u36, u37, u38, u39, u40, u41, u42, u43, u44, u45, by go_simp, ?_⟩
      show RC w3 (.slice a1 len1 cap1) (.slice a len cap) (.agg #[.int .i64 kind, .int .i64 num, .string name]) PL CL v e0 e1 e2 true e4 e5 e6 e7 e8 e9 e10 e11 e12 e13 e14 e15 u30 u31 u32 (.slice a1 len1 cap1) u34 u35 u36 u37 u38 u39 u40 u41 u42 u43 u44 u45
      exact { x with f3 := fun _ => rfl }
    · subst hA
      refine load_row rfl _ _ rfl w.heap.size (by go_simp) 23 _ _ hrow Try.underlying23 rfl cv_size ?_
      refine hM _ _ ⟨u30, u31, u32, u33, (.agg #[.int .i64 kind, .int .i64 num, .string name]), u35, u36, u37, u38, u39, u40, u41, u42, u43, u44, u45, by go_simp, ?_⟩
      show RC w3 (.slice a1 len1 cap1) (.slice a len cap) (.agg #[.int .i64 kind, .int .i64 num, .string name]) PL CL v e0 e1 e2 e3 true e5 e6 e7 e8 e9 e10 e11 e12 e13 e14 e15 u30 u31 u32 u33 (.agg #[.int .i64 kind, .int .i64 num, .string name]) u35 u36 u37 u38 u39 u40 u41 u42 u43 u44 u45
      exact { x with f4 := fun _ => rfl }
    · subst hA
      have q3 : e3 = true := by first | exact he | exact he.1 | exact he.2 | exact he.2.1 | exact he.2.2 | exact he.2.2.1 | exact he.2.2.2
      have g3 := x.f3 q3
      subst g3
      have q4 : e4 = true := by first | exact he | exact he.1 | exact he.2 | exact he.2.1 | exact he.2.2 | exact he.2.2.1 | exact he.2.2.2
      have g4 := x.f4 q4
      subst g4
      refine call_list rfl 9 #[.slice a1 len1 cap1, .agg #[.int .i64 kind, .int .i64 num, .string name]] (by go_simp) (fun r v' => RS v' r PL ∧ Below v.heap.size v v') (by have key := uput_any ⟨kind, num, name⟩ a1 len1 cap1 b v HC.out (HRB3.out.mono x.bel) (by omega); rw [HPL.out] at key; exact key.mono fun e v' ⟨r, he, hf, hb⟩ => ⟨r, he, hf.rs, hb⟩) ?_
      rintro r v' ⟨hrs, hb⟩
      refine hM _ _ ⟨u30, u31, u32, (.slice a1 len1 cap1), (.agg #[.int .i64 kind, .int .i64 num, .string name]), r, u36, u37, u38, u39, u40, u41, u42, u43, u44, u45, by go_simp, ?_⟩
      show RC w3 (.slice a1 len1 cap1) (.slice a len cap) (.agg #[.int .i64 kind, .int .i64 num, .string name]) PL CL v' e0 e1 e2 e3 e4 true e6 e7 e8 e9 e10 e11 e12 e13 e14 e15 u30 u31 u32 (.slice a1 len1 cap1) (.agg #[.int .i64 kind, .int .i64 num, .string name]) r u36 u37 u38 u39 u40 u41 u42 u43 u44 u45
      have y := x.grow hb
      exact { y with f5 := fun _ => hrs }
    · subst hA
      have q2 : e2 = true := by first | exact he | exact he.1 | exact he.2 | exact he.2.1 | exact he.2.2 | exact he.2.2.1 | exact he.2.2.2
      have q5 : e5 = true := by first | exact he | exact he.1 | exact he.2 | exact he.2.1 | exact he.2.2 | exact he.2.2.1 | exact he.2.2.2
      obtain ⟨p1, m1, c1, g1, hr1⟩ := x.f2 q2
      obtain ⟨p2, m2, c2, g2, hr2⟩ := x.f5 q5
      subst g1 g2
      refine call_list rfl 7 #[.slice p1 m1 c1, .slice p2 m2 c2] (by go_simp) (fun r v' => r = .bool true ∧ Below v.heap.size v v') ((sequal p1 p2 m1 m2 c1 c2 _ _ v hr1 hr2).mono fun e v' ⟨he, hq⟩ => ⟨_, he, by rw [decide_eq_true rfl], hq.below _⟩) ?_
      rintro r v' ⟨rfl, hb⟩
      refine hM _ _ ⟨u30, u31, (.slice p1 m1 c1), u33, u34, (.slice p2 m2 c2), (.bool true), u37, u38, u39, u40, u41, u42, u43, u44, u45, by go_simp, ?_⟩
      show RC w3 (.slice a1 len1 cap1) (.slice a len cap) (.agg #[.int .i64 kind, .int .i64 num, .string name]) PL CL v' e0 e1 e2 e3 e4 e5 true e7 e8 e9 e10 e11 e12 e13 e14 e15 u30 u31 (.slice p1 m1 c1) u33 u34 (.slice p2 m2 c2) (.bool true) u37 u38 u39 u40 u41 u42 u43 u44 u45
      have y := x.grow hb
      exact { y with f6 := fun _ => rfl }
    · subst hA
      have q6 : e6 = true := by first | exact he | exact he.1 | exact he.2 | exact he.2.1 | exact he.2.2 | exact he.2.2.1 | exact he.2.2.2
      have g6 := x.f6 q6
      subst g6
      refine val_list rfl (.bool false) (by go_simp) ?_
      refine hM _ _ ⟨u30, u31, u32, u33, u34, u35, (.bool true), (.bool false), u38, u39, u40, u41, u42, u43, u44, u45, by go_simp, ?_⟩
      show RC w3 (.slice a1 len1 cap1) (.slice a len cap) (.agg #[.int .i64 kind, .int .i64 num, .string name]) PL CL v e0 e1 e2 e3 e4 e5 e6 true e8 e9 e10 e11 e12 e13 e14 e15 u30 u31 u32 u33 u34 u35 (.bool true) (.bool false) u38 u39 u40 u41 u42 u43 u44 u45
      exact { x with f7 := fun _ => rfl }
    · subst hA
      have q7 : e7 = true := by first | exact he | exact he.1 | exact he.2 | exact he.2.1 | exact he.2.2 | exact he.2.2.1 | exact he.2.2.2
      have g7 := x.f7 q7
      subst g7
      refine val_list rfl (.bool false) (by go_simp) ?_
      refine hM _ _ ⟨u30, u31, u32, u33, u34, u35, u36, (.bool false), (.bool false), u39, u40, u41, u42, u43, u44, u45, by go_simp, ?_⟩
      show RC w3 (.slice a1 len1 cap1) (.slice a len cap) (.agg #[.int .i64 kind, .int .i64 num, .string name]) PL CL v e0 e1 e2 e3 e4 e5 e6 e7 true e9 e10 e11 e12 e13 e14 e15 u30 u31 u32 u33 u34 u35 u36 (.bool false) (.bool false) u39 u40 u41 u42 u43 u44 u45
      exact { x with f8 := fun _ => rfl }
    · have q8 : e8 = true := by first | exact he | exact he.1 | exact he.2 | exact he.2.1 | exact he.2.2 | exact he.2.2.1 | exact he.2.2.2
      have g8 := x.f8 q8
      subst g8
      refine val_listg 8 false 38 rfl rfl (by rw [hA]; go_simp) (.slice a len cap) (by rw [hA]; go_simp) ?_
      refine hM _ _ ⟨u30, u31, u32, u33, u34, u35, u36, u37, (.bool false), (.slice a len cap), u40, u41, u42, u43, u44, u45, by rw [hA]; go_simp, ?_⟩
      show RC w3 (.slice a1 len1 cap1) (.slice a len cap) (.agg #[.int .i64 kind, .int .i64 num, .string name]) PL CL v e0 e1 e2 e3 e4 e5 e6 e7 e8 true e10 e11 e12 e13 e14 e15 u30 u31 u32 u33 u34 u35 u36 u37 (.bool false) (.slice a len cap) u40 u41 u42 u43 u44 u45
      exact { x with f9 := fun _ => rfl }
    · have q8 : e8 = true := by first | exact he | exact he.1 | exact he.2 | exact he.2.1 | exact he.2.2 | exact he.2.2.1 | exact he.2.2.2
      have g8 := x.f8 q8
      subst g8
      have q9 : e9 = true := by first | exact he | exact he.1 | exact he.2 | exact he.2.1 | exact he.2.2 | exact he.2.2.1 | exact he.2.2.2
      have g9 := x.f9 q9
      subst g9
      refine call_listg 8 false 38 rfl rfl (by rw [hA]; go_simp) 10 #[.slice a len cap] (by rw [hA]; go_simp) (fun r v' => RS v' r CL ∧ Below v.heap.size v v') (by have key := ccode_any a len cap L v (HX3.out.mono x.bel) (by omega); rw [HCL.out] at key; exact key.mono fun e v' ⟨r, he, hf, hb⟩ => ⟨r, he, hf.rs, hb⟩) ?_
      rintro r v' ⟨hrs, hb⟩
      refine hM _ _ ⟨u30, u31, u32, u33, u34, u35, u36, u37, (.bool false), (.slice a len cap), r, u41, u42, u43, u44, u45, by rw [hA]; go_simp, ?_⟩
      show RC w3 (.slice a1 len1 cap1) (.slice a len cap) (.agg #[.int .i64 kind, .int .i64 num, .string name]) PL CL v' e0 e1 e2 e3 e4 e5 e6 e7 e8 e9 true e11 e12 e13 e14 e15 u30 u31 u32 u33 u34 u35 u36 u37 (.bool false) (.slice a len cap) r u41 u42 u43 u44 u45
      have y := x.grow hb
      exact { y with f10 := fun _ => hrs }
    · have q8 : e8 = true := by first | exact he | exact he.1 | exact he.2 | exact he.2.1 | exact he.2.2 | exact he.2.2.1 | exact he.2.2.2
      have g8 := x.f8 q8
      subst g8
      refine val_listg 8 false 38 rfl rfl (by rw [hA]; go_simp) (.slice a len cap) (by rw [hA]; go_simp) ?_
      refine hM _ _ ⟨u30, u31, u32, u33, u34, u35, u36, u37, (.bool false), u39, u40, (.slice a len cap), u42, u43, u44, u45, by rw [hA]; go_simp, ?_⟩
      show RC w3 (.slice a1 len1 cap1) (.slice a len cap) (.agg #[.int .i64 kind, .int .i64 num, .string name]) PL CL v e0 e1 e2 e3 e4 e5 e6 e7 e8 e9 e10 true e12 e13 e14 e15 u30 u31 u32 u33 u34 u35 u36 u37 (.bool false) u39 u40 (.slice a len cap) u42 u43 u44 u45
      exact { x with f11 := fun _ => rfl }
    · have q8 : e8 = true := by first | exact he | exact he.1 | exact he.2 | exact he.2.1 | exact he.2.2 | exact he.2.2.1 | exact he.2.2.2
      have g8 := x.f8 q8
      subst g8
      have q11 : e11 = true := by first | exact he | exact he.1 | exact he.2 | exact he.2.1 | exact he.2.2 | exact he.2.2.1 | exact he.2.2.2
      have g11 := x.f11 q11
      subst g11
      refine call_listg 8 false 38 rfl rfl (by rw [hA]; go_simp) 11 #[.slice a len cap] (by rw [hA]; go_simp) (fun r v' => RS v' r CL ∧ Below v.heap.size v v') (by have key := ucode_any a len cap L v (HX3.out.mono x.bel) (by omega); rw [HCL.out] at key; exact key.mono fun e v' ⟨r, he, hf, hb⟩ => ⟨r, he, hf.rs, hb⟩) ?_
      rintro r v' ⟨hrs, hb⟩
      refine hM _ _ ⟨u30, u31, u32, u33, u34, u35, u36, u37, (.bool false), u39, u40, (.slice a len cap), r, u43, u44, u45, by rw [hA]; go_simp, ?_⟩
      show RC w3 (.slice a1 len1 cap1) (.slice a len cap) (.agg #[.int .i64 kind, .int .i64 num, .string name]) PL CL v' e0 e1 e2 e3 e4 e5 e6 e7 e8 e9 e10 e11 true e13 e14 e15 u30 u31 u32 u33 u34 u35 u36 u37 (.bool false) u39 u40 (.slice a len cap) r u43 u44 u45
      have y := x.grow hb
      exact { y with f12 := fun _ => hrs }
    · have q8 : e8 = true := by first | exact he | exact he.1 | exact he.2 | exact he.2.1 | exact he.2.2 | exact he.2.2.1 | exact he.2.2.2
      have g8 := x.f8 q8
      subst g8
      have q10 : e10 = true := by first | exact he | exact he.1 | exact he.2 | exact he.2.1 | exact he.2.2 | exact he.2.2.1 | exact he.2.2.2
      have q12 : e12 = true := by first | exact he | exact he.1 | exact he.2 | exact he.2.1 | exact he.2.2 | exact he.2.2.1 | exact he.2.2.2
      obtain ⟨p1, m1, c1, g1, hr1⟩ := x.f10 q10
      obtain ⟨p2, m2, c2, g2, hr2⟩ := x.f12 q12
      subst g1 g2
      refine call_listg 8 false 38 rfl rfl (by rw [hA]; go_simp) 7 #[.slice p1 m1 c1, .slice p2 m2 c2] (by rw [hA]; go_simp) (fun r v' => r = .bool true ∧ Below v.heap.size v v') ((sequal p1 p2 m1 m2 c1 c2 _ _ v hr1 hr2).mono fun e v' ⟨he, hq⟩ => ⟨_, he, by rw [decide_eq_true rfl], hq.below _⟩) ?_
      rintro r v' ⟨rfl, hb⟩
      refine hM _ _ ⟨u30, u31, u32, u33, u34, u35, u36, u37, (.bool false), u39, (.slice p1 m1 c1), u41, (.slice p2 m2 c2), (.bool true), u44, u45, by rw [hA]; go_simp, ?_⟩
      show RC w3 (.slice a1 len1 cap1) (.slice a len cap) (.agg #[.int .i64 kind, .int .i64 num, .string name]) PL CL v' e0 e1 e2 e3 e4 e5 e6 e7 e8 e9 e10 e11 e12 true e14 e15 u30 u31 u32 u33 u34 u35 u36 u37 (.bool false) u39 (.slice p1 m1 c1) u41 (.slice p2 m2 c2) (.bool true) u44 u45
      have y := x.grow hb
      exact { y with f13 := fun _ => rfl }
    · have q8 : e8 = true := by first | exact he | exact he.1 | exact he.2 | exact he.2.1 | exact he.2.2 | exact he.2.2.1 | exact he.2.2.2
      have g8 := x.f8 q8
      subst g8
      have q13 : e13 = true := by first | exact he | exact he.1 | exact he.2 | exact he.2.1 | exact he.2.2 | exact he.2.2.1 | exact he.2.2.2
      have g13 := x.f13 q13
      subst g13
      refine val_listg 8 false 38 rfl rfl (by rw [hA]; go_simp) (.bool false) (by rw [hA]; go_simp) ?_
      refine hM _ _ ⟨u30, u31, u32, u33, u34, u35, u36, u37, (.bool false), u39, u40, u41, u42, (.bool true), (.bool false), u45, by rw [hA]; go_simp, ?_⟩
      show RC w3 (.slice a1 len1 cap1) (.slice a len cap) (.agg #[.int .i64 kind, .int .i64 num, .string name]) PL CL v e0 e1 e2 e3 e4 e5 e6 e7 e8 e9 e10 e11 e12 e13 true e15 u30 u31 u32 u33 u34 u35 u36 u37 (.bool false) u39 u40 u41 u42 (.bool true) (.bool false) u45
      exact { x with f14 := fun _ => rfl }
    · subst hA
      have q8 : e8 = true := by first | exact he | exact he.1 | exact he.2 | exact he.2.1 | exact he.2.2 | exact he.2.2.1 | exact he.2.2.2
      have g8 := x.f8 q8
      subst g8
      have q14 : e14 = true := by first | exact he | exact he.1 | exact he.2 | exact he.2.1 | exact he.2.2 | exact he.2.2.1 | exact he.2.2.2
      have g14 := x.f14 q14
      subst g14
      refine val_list rfl (.bool false) (by go_simp) ?_
      refine hM _ _ ⟨u30, u31, u32, u33, u34, u35, u36, u37, (.bool false), u39, u40, u41, u42, u43, (.bool false), (.bool false), by go_simp, ?_⟩
      show RC w3 (.slice a1 len1 cap1) (.slice a len cap) (.agg #[.int .i64 kind, .int .i64 num, .string name]) PL CL v e0 e1 e2 e3 e4 e5 e6 e7 e8 e9 e10 e11 e12 e13 e14 true u30 u31 u32 u33 u34 u35 u36 u37 (.bool false) u39 u40 u41 u42 u43 (.bool false) (.bool false)
      exact { x with f15 := fun _ => rfl }
  · intro a' v hI
    obtain ⟨u30, u31, u32, u33, u34, u35, u36, u37, u38, u39, u40, u41, u42, u43, u44, u45, rfl, xx⟩ := hI
    have x : RC w3 (.slice a1 len1 cap1) (.slice a len cap) (.agg #[.int .i64 kind, .int .i64 num, .string name]) PL CL v true true true true true true true true true true true true true true true true u30 u31 u32 u33 u34 u35 u36 u37 u38 u39 u40 u41 u42 u43 u44 u45 := xx
    clear xx
    have g15 := x.f15 rfl
    subst g15
    have HBV := Lib.hid (HB3.out.trans (x.bel.mono HB3.out.size))
    have HRV := Lib.hid (HRB3.out.mono x.bel)
    have HRW := Lib.hid (HR3.out.below x.bel HR3.out.lt)
    clear x
    go_simp
    go_wp2_with fail
    refine (cparse_any a1 len1 cap1 b v HRV.out (by omega)).mono ?_
    rw [HY.out, HFV.out]
    rintro x w8 ⟨v8, rfl, hf8, hb8⟩
    obtain ⟨a8, c8, hv8, hc8⟩ := hf8.frc.cvs HYF.out
    rw [HNY.out] at hv8 hc8
    subst hv8
    have HC8 := Lib.hid hc8
    have HB8 := Lib.hid (HBV.out.trans (hb8.mono HBV.out.size))
    have HR8 := Lib.hid (HRV.out.mono hb8)
    have HCC8 := Lib.hid (HRW.out.below hb8 HRW.out.lt)
    clear hf8 hb8 hc8
    go_wp2_with fail
    refine (uparse_any a1 len1 cap1 b w8 HR8.out (by omega)).mono ?_
    rw [HY.out, HFV.out]
    rintro x w9 ⟨v9, rfl, hf9, hb9⟩
    obtain ⟨a9, c9, hv9, hc9⟩ := hf9.frc.cvs HYF.out
    rw [HNY.out] at hv9 hc9
    subst hv9
    have HC9 := Lib.hid hc9
    have HC89 := Lib.hid (HC8.out.mono hb9)
    have HB9 := Lib.hid (HB8.out.trans (hb9.mono HB8.out.size))
    have HR9 := Lib.hid (HR8.out.mono hb9)
    clear hf9 hb9 hc9
    go_wp2_with fail
    refine (popen a1 len1 cap1 b w9 HR9.out (by omega)).mono ?_
    rintro x w10 ⟨p, rfl, hpl, hP10, hb10⟩
    have HP10 := Lib.hid hP10
    have HPL := Lib.hid hpl
    have HB10 := Lib.hid hb10
    have HR10 := Lib.hid (HR9.out.mono hb10)
    clear hP10 hpl hb10
    go_wp2_with fail
    refine (ropen a1 len1 cap1 b w10 HR10.out (by omega)).mono ?_
    rintro x w11 ⟨q, rfl, hql, hQ11, hb11⟩
    have HQ11 := Lib.hid hQ11
    have HP11 := Lib.hid (HP10.out.mono hb11)
    have HQL := Lib.hid (show w9.heap.size ≤ q by have := HB10.out.size; omega)
    have HB11 := Lib.hid (HB10.out.trans (hb11.mono HB10.out.size))
    clear hQ11 hql hb11
    go_wp2_with fail
    refine (cread_any p b 0 w11 HP11.out).mono ?_
    rw [HS1.out, HS2.out, HS3.out]
    rintro x w12 ⟨rfl, hP12, hg12⟩
    have HP12 := Lib.hid hP12
    have HQ12 := Lib.hid (HQ11.out.gw HP11.out hg12)
    have HB12 := Lib.hid (HB11.out.trans (hg12.below HPL.out HB11.out.size))
    clear hP12 hg12
    go_wp2_with fail
    refine (uread_any q b 0 w12 HQ12.out).mono ?_
    rw [HS1.out, HS2.out, HS3.out]
    rintro x w13 ⟨rfl, hQ13, hg13⟩
    have HQ13 := Lib.hid hQ13
    have HP13 := Lib.hid (HP12.out.gw HQ12.out hg13)
    have HB13 := Lib.hid (HB12.out.trans (hg13.below HQL.out HB12.out.size))
    clear hQ13 hg13
    unfold Cv.val
    have heq := eqCv ⟨k1, n1, s1⟩ ⟨k1, n1, s1⟩ HF1.out HF1.out
    rw [cvEq_refl] at heq
    have HEQ := Lib.hid heq
    have CZ := Lib.hid cv_zero
    have CSZ := Lib.hid cv_size
    clear heq
    dsimp only
    go_wp2_with (first
      | (refine alloc_row (o := ⟨some 13, _, _, _, _, _⟩) rfl _ rfl _ CZ.out ?_; intro w14 hr14 hb14 hz14; have HA14 := Lib.hid hr14; have HB14 := Lib.hid (HB13.out.trans (hb14.mono HB13.out.size)); have HP14 := Lib.hid (HP13.out.mono hb14); have HQ14 := Lib.hid (HQ13.out.mono hb14); have HL14 := Lib.hid (show w9.heap.size ≤ w13.heap.size from HB13.out.size); clear hr14 hb14 hz14)
      | (refine alloc_row (o := ⟨some 14, _, _, _, _, _⟩) rfl _ rfl _ CZ.out ?_; intro w15 hr15 hb15 hz15; have HA15 := Lib.hid hr15; have HA14b := Lib.hid (HA14.out.below hb15 HA14.out.lt); have HB15 := Lib.hid (HB14.out.trans (hb15.mono HB14.out.size)); have HP15 := Lib.hid (HP14.out.mono hb15); have HQ15 := Lib.hid (HQ14.out.mono hb15); have HL15 := Lib.hid (show w9.heap.size ≤ w14.heap.size from HB14.out.size); have HNE := Lib.hid (show w13.heap.size ≠ w14.heap.size by have := HA14.out.lt; omega); clear hr15 hb15 hz15)
      | (refine store_row (o := ⟨none, _, _, _, _, _⟩) rfl _ (.tmp 13) _ rfl w13.heap.size [.int .i64 k1, .int .i64 n1, .string s1] (by go_simp) (by go_simp) 23 _ HA14b.out CSZ.out rfl (by intro v hv; simp at hv; rcases hv with rfl | rfl | rfl <;> rfl) ?_; intro w16 hr16 hu16; have HA16 := Lib.hid hr16; have HA15b := Lib.hid (HA15.out.upd hu16 (Ne.symm HNE.out)); have HB16 := Lib.hid (HB15.out.trans (hu16.below HL14.out)); have HP16 := Lib.hid (HP15.out.cv HA14b.out hu16); have HQ16 := Lib.hid (HQ15.out.cv HA14b.out hu16); clear hr16 hu16)
      | (refine store_row (o := ⟨none, _, _, _, _, _⟩) rfl _ (.tmp 14) _ rfl w14.heap.size [.int .i64 k1, .int .i64 n1, .string s1] (by go_simp) (by go_simp) 23 _ HA15b.out CSZ.out rfl (by intro v hv; simp at hv; rcases hv with rfl | rfl | rfl <;> rfl) ?_; intro w17 hr17 hu17; have HA17 := Lib.hid hr17; have HA16b := Lib.hid (HA16.out.upd hu17 HNE.out); have HB17 := Lib.hid (HB16.out.trans (hu17.below HL15.out)); have HP17 := Lib.hid (HP16.out.cv HA15b.out hu17); have HQ17 := Lib.hid (HQ16.out.cv HA15b.out hu17); clear hr17 hu17))
    refine (usame_any a8 a9 ny ny c8 c9 Y Y w17 (HC89.out.mono HB17.out) (HC9.out.mono HB17.out)).mono ?_
    rw [same_refl]
    rintro x w18 ⟨rfl, hb18⟩
    have HA18 := Lib.hid (HA16b.out.below hb18 HA16b.out.lt)
    have HA18b := Lib.hid (HA17.out.below hb18 HA17.out.lt)
    have HB18 := Lib.hid (HB17.out.trans (hb18.mono HB17.out.size))
    have HP18 := Lib.hid (HP17.out.mono hb18)
    have HQ18 := Lib.hid (HQ17.out.mono hb18)
    clear hb18
    have heq := HEQ.out
    have f0 := HA18.out.c0
    have f1 := HA18.out.c1
    have f2 := HA18.out.c2
    have g0 := HA18b.out.c0
    have g1 := HA18b.out.c1
    have g2 := HA18b.out.c2
    go_wp2_with fail
    clear heq f0 f1 f2 g0 g1 g2
    refine (perr p _ _ w18 HP18.out).mono ?_
    rintro x wq ⟨rfl, rfl⟩
    go_wp2_with fail
    refine (rerr q _ _ w18 HQ18.out).mono ?_
    rintro x wq ⟨rfl, rfl⟩
    go_wp2_with fail
    refine (pleft p _ _ w18 HP18.out).mono ?_
    rintro x wq ⟨rfl, rfl⟩
    go_wp2_with fail
    refine (rleft q _ _ w18 HQ18.out).mono ?_
    rintro x wq ⟨rfl, rfl⟩
    go_wp2_with fail
    refine (awake6 w18).mono ?_
    rintro x w19 ⟨rfl, hb19⟩
    go_wp2_with fail
    go_ret
    exact ⟨rfl, (HB9.out.trans (HB18.out.mono HB9.out.size)).trans (hb19.mono (Nat.le_trans HB9.out.size HB18.out.size))⟩

end Go.Proofs.Ytagblhkihammdaa.W
