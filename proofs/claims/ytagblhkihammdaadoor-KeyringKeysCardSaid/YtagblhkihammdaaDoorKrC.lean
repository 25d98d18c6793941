/- CONTRACTS of layer 7 (keyring): a lane's keys. -/
import Derived.Test.YtagblhkihammdaaDoorKrB
import Derived.Test.YtagblhkihammdaaDoorQ2
namespace Go.Proofs.YtagblhkihammdaaDoor.W
open Go Go.ChangeShapes Go.WideShapes Go.ChangeAt Go.RowKit

theorem Row.k0 {w : World} {g : Nat} {t : TypeId} {a : Value} {L : List Value} (h : Row w g t (a :: L)) : w.cell? ⟨g, 0, none⟩ = some a := by rw [h.cellV]; rfl
theorem Gw.tail {w w1 w2 : World} {p g : Nat} (h : Gw p w w1) (hg : w.heap.size ≤ g) (hu : Upd w1 w2 g) : Gw p w w2 :=
  ⟨hu.os.trans h.os, hu.tape.trans h.tape, hu.output.trans h.output, by rw [hu.size]; exact h.size, fun k hk hp => (hu.block k (by omega)).trans (h.block k hk hp)⟩
theorem box_cell {P : Program} {w : World} {ops : Array Oper} {rest : List Oper} {o : Oper} {a : Act} {Q : Exit → Act → World → Prop} (hgd : o.guard = none) (ty : TypeId) (x : Operand)
    (ho : o.op = .box ty x) (v : Value) (hx : a.eval x = v) (hv : v.cells = #[v])
    (h : ∀ w', Row w' w.heap.size ty [v] → Below w.heap.size w w' → w'.heap.size = w.heap.size + 1 → wpList P ops Q rest (a.put o.dst (.pointer (some ⟨w.heap.size, 0, none⟩))) w') :
    wpList P ops Q (o :: rest) a w := by
  refine wpList_plain hgd fun K hK => ?_
  unfold Oper.wp
  simp [execOp, ho, hx, Instr.box, newVar, newRow, hv, Result.andThen]
  exact hK _ _ (h (w.alloc (.cells [v].toArray ty)) (Row.new _ _ _) ((Below.refl _ _).alloc (Nat.le_refl _) _) (by simp))
theorem alloc_cell {P : Program} {w : World} {ops : Array Oper} {rest : List Oper} {o : Oper} {a : Act} {Q : Exit → Act → World → Prop} (hgd : o.guard = none) (ty : TypeId)
    (ho : o.op = .alloc ty) (v : Value) (hv : v.cells = #[v]) (hz : (P.info? ty).map (·.zero) = some (some v))
    (h : ∀ w', Row w' w.heap.size ty [v] → Below w.heap.size w w' → w'.heap.size = w.heap.size + 1 → wpList P ops Q rest (a.put o.dst (.pointer (some ⟨w.heap.size, 0, none⟩))) w') :
    wpList P ops Q (o :: rest) a w := by
  refine wpList_plain hgd fun K hK => ?_
  unfold Oper.wp
  cases hq : P.info? ty with
  | none => simp [hq] at hz
  | some i =>
    have hz' : i.zero = some v := by simpa [hq] using hz
    simp [execOp, ho, Instr.alloc, zeroValue, typeInfo, hq, hz', newVar, newRow, hv, Result.andThen]
    exact hK _ _ (h (w.alloc (.cells [v].toArray ty)) (Row.new _ _ _) ((Below.refl _ _).alloc (Nat.le_refl _) _) (by simp))
theorem splice1 (L : List Value) (k : Nat) (v : Value) (h : k < L.length) : splice L k [v] = L.set k v := by
  unfold splice
  rw [List.set_eq_take_append_cons_drop, if_pos h]; rfl
/-- STORE of one cell. -/
theorem store_cell {P : Program} {w : World} {ops : Array Oper} {rest : List Oper} {o : Oper} {a : Act} {Q : Exit → Act → World → Prop} (hgd : o.guard = none) (ty : TypeId) (x y : Operand) (ho : o.op = .store ty x y)
    (g off : Nat) (v : Value) (hx : a.eval x = .pointer (some ⟨g, off, none⟩)) (hy : a.eval y = v) (hv : v.cells = #[v]) (h1 : v.oneCell' = true)
    (t : TypeId) (L : List Value) (hg : Row w g t L) (hi : (P.info? ty).map (·.size) = some 1) (hfit : off < L.length)
    (h : ∀ w', Row w' g t (L.set off v) → Upd w w' g → wpList P ops Q rest (a.put o.dst undef) w') : wpList P ops Q (o :: rest) a w := by
  refine wpList_plain hgd fun K hK => ?_
  have hrun := run_storeCells_at (P := P) g off t [v] 0 L.toArray w hg (by simp; omega) (by simpa using h1)
  unfold Oper.wp execOp
  cases hq : P.info? ty with
  | none => simp [hq] at hi
  | some i =>
    have hs : i.size = 1 := by simpa [hq] using hi
    simp [ho, hx, hy, Instr.storeAt, Instr.sureAddr, storeVar, sizeOf, typeInfo, hq, hs, hv, hrun, Result.andThen]
    refine hK _ _ (h _ ?_ (Upd.setRow _ _ _))
    rw [← splice1 L off v hfit]
    unfold Row
    rw [setRow_heap w g _ _ _ _ hg]
    congr 2
theorem results_row_tmp {P : Program} {fn : Func} {p u : Tmp} {ty : TypeId} (h : fn.results = #[.cell p ty, .tmp u]) (tmps : Array Value) (w : World) (g : Nat) (t : TypeId) (cs : Array Value) (fr : Nat × Nat) (d : TypeDesc)
    (hp : tmps.getD p undef = .pointer (some ⟨g, 0, none⟩)) (hg : w.heap[g]? = some (.cells cs t fr))
    (hu : P.underlying ty = some d) (hd : (match d with | .struct _ | .array _ _ => true | _ => false) = true) (hi : (P.info? ty).map (·.size) = some cs.size) :
    (results fn tmps).run P w = .ok (.tuple #[.agg cs, tmps.getD u undef]) w := by
  rw [results_cell_tmp h, hp]
  simp [asAddr, run_loadVar_row w g t ty cs fr d hg hu hd hi, Result.andThen]
theorem plane_size : (Tryd.prog.info? 123).map (·.size) = some 1 := by kernel_rfl
theorem keys_zero : (Tryd.prog.info? 53).map (·.zero) = some (some (.agg [.string ⟨#[]⟩, .string ⟨#[]⟩, .string ⟨#[]⟩].toArray)) := by kernel_rfl

theorem upd_same (b : Nat → Bool) (l : Nat) (h : b l = true) : upd b l = b := by
  funext i
  unfold upd
  split
  · rename_i h1; rw [h1, h]
  · rfl
/-- what Do makes of a ring: the lane's keys are there -/
theorem once_any (g : Nat) (m : ByteArray) (K : Nat → Nat → ByteArray) (b : Nat → Bool) (l r1 r2 r3 : Nat) (v : World) (hl : l < 5) (hm : m.size ≤ 40000000000000) (hK : Ks v) (hrow : Row v g 61 (ringC m K b)) (hkeys : ∀ i j, i < 5 → j < 3 → keyV m i j = K i j)
    (c1 : v.cell? ⟨r1, 0, none⟩ = some (.pointer (some ⟨g, 0, none⟩))) (c2 : v.cell? ⟨r2, 0, none⟩ = some (.int .i64 (l : Int))) (c3 : v.cell? ⟨r3, 0, none⟩ = some (.pointer (some ⟨g, 2 + l * 6, none⟩)))
    (h1 : r1 < v.heap.size) (h2 : r2 < v.heap.size) (h3 : r3 < v.heap.size) (n1 : r1 ≠ g) (n2 : r2 ≠ g) (n3 : r3 ≠ g) (hg0 : g ≠ 0) :
    Calls Tryd.prog 91 #[.pointer (some ⟨g, 2 + l * 6, none⟩), .func (.func 92) #[] #[.pointer (some ⟨r1, 0, none⟩), .pointer (some ⟨r2, 0, none⟩), .pointer (some ⟨r3, 0, none⟩)]] v fun e w' => e = .returned (.tuple #[]) ∧ Row w' g 61 (ringC m K (upd b l)) ∧ Gw g v w' := by
  have hc0 : v.cell? ⟨g, 2 + l * 6, none⟩ = some (.int .u32 (one01 (b l))) := by rw [hrow.cellV]; exact ringC_lane m K b l 0 hl (by decide)
  have hc1 : v.cell? ⟨g, 2 + l * 6 + 1, none⟩ = some (.int .i32 0) := by rw [hrow.cellV]; exact ringC_lane m K b l 1 hl (by decide)
  rcases hb : b l with _ | _
  · rw [hb] at hc0
    have hlen := ringC_len m K b
    have hw : Row (v.setCell ⟨g, 2 + l * 6 + 1, none⟩ (.int .i32 1)) g 61 ((ringC m K b).set (2 + l * 6 + 1) (.int .i32 1)) := hrow.setV _ _
    have hu : Upd v (v.setCell ⟨g, 2 + l * 6 + 1, none⟩ (.int .i32 1)) g := Upd.setCell _ _ _ _
    have hcb := count_bound b
    have hcl := clos_any g l hl m r1 r2 r3 _ (countV b) (K l 0) (K l 1) (K l 2) (v.setCell ⟨g, 2 + l * 6 + 1, none⟩ (.int .i32 1)) (hK.gw (Gw.upd hu) hg0) hm hw (by rw [List.length_set]; exact hlen)
      (by rw [List.getElem?_set_ne (by omega)]; exact ringC_master m K b) (by rw [List.getElem?_set_ne (by omega)]; exact ringC_count m K b) hcb.1 (by omega) (hkeys l 0 hl (by decide)) (hkeys l 1 hl (by decide)) (hkeys l 2 hl (by decide))
      (by rw [hu.cell n1]; exact c1) (by rw [hu.cell n2]; exact c2) (by rw [hu.cell n3]; exact c3) (by rw [hu.size]; exact h1) (by rw [hu.size]; exact h2) (by rw [hu.size]; exact h3) n1
    refine (do_first g (2 + l * 6) _ _ v hc0 hc1 (hrow.frozen _) hcl ?_).mono ?_
    · rintro w' ⟨hr, -⟩
      refine ⟨?_, ?_, hr.frozen _, hr.frozen _⟩
      · rw [hr.cellV, List.getElem?_set_ne (by omega), List.getElem?_set_ne (by omega), List.getElem?_set_ne (by omega), List.getElem?_set_ne (by omega), List.getElem?_set_ne (by omega)]
        have := ringC_lane m K b l 0 hl (by decide)
        rw [hb] at this
        exact this
      · rw [hr.cellV, List.getElem?_set_ne (by omega), List.getElem?_set_ne (by omega), List.getElem?_set_ne (by omega), List.getElem?_set_ne (by omega), List.getElem?_set_self (by rw [hlen]; omega)]
    · rintro e w' ⟨rfl, w1, ⟨hr, hgw⟩, rfl⟩
      refine ⟨rfl, ?_, ?_⟩
      · have hr2 : Row w1.drew g 61 _ := hr
        have := (hr2.setV (2 + l * 6) (.int .u32 1)).setV (2 + l * 6 + 1) (.int .i32 0)
        have e := laid_ring m K b l hl hb
        unfold laid at e
        rw [e] at this
        exact this
      · exact ((((Gw.upd hu).trans hgw).trans (Gw.of_below (Below.refl _ _).drew)).trans (Gw.upd (Upd.setCell _ _ _ _))).trans (Gw.upd (Upd.setCell _ _ _ _))
  · rw [hb] at hc0
    refine (do_done g (2 + l * 6) _ v hc0).mono ?_
    rintro e w' ⟨rfl, rfl⟩
    exact ⟨rfl, by rw [upd_same b l hb]; exact hrow, Gw.refl _ _⟩
theorem plane_zero : (Tryd.prog.info? 123).map (·.zero) = some (some (.pointer none)) := by kernel_rfl
/-- what has been done of 'l := &r.lanes[lane]' -/
structure RG (w3 : World) (g l : Nat) (v : World) (e0 e1 e2 e3 e4 e5 e6 : Bool) (u24 u25 u26 u27 u28 u6 : Value) (gb : Nat) : Prop where
  bel : Below w3.heap.size w3 v
  f0 : e0 = true → u24 = .pointer (some ⟨g, 0, none⟩)
  f1 : e1 = true → u25 = .int .i64 (l : Int)
  f2 : e2 = true → u26 = .pointer (some ⟨g, 0, none⟩)
  f3 : e3 = true → u27 = .pointer (some ⟨g, 2, none⟩)
  f4 : e4 = true → u28 = .pointer (some ⟨g, 2 + l * 6, none⟩)
  f5 : e5 = true → u6 = .pointer (some ⟨gb, 0, none⟩) ∧ w3.heap.size ≤ gb ∧ (e6 = false → Row v gb 123 [.pointer none])
  f6 : e6 = true → e5 = true ∧ Row v gb 123 [.pointer (some ⟨g, 2 + l * 6, none⟩)]

set_option maxRecDepth 100000 in
set_option maxHeartbeats 4000000 in
theorem keysOf_ok (g : Nat) (m : ByteArray) (K : Nat → Nat → ByteArray) (b : Nat → Bool) (l : Nat) (w : World) (hK : Ks w) (h : Ring w g m K b) (hg0 : g ≠ 0) (hl : l < 5) (hm : m.size ≤ 40000000000000) :
    Calls Tryd.prog 55 #[.pointer (some ⟨g, 0, none⟩), .int .i64 (l : Int)] w fun e w' => e = .returned (.tuple #[.agg #[.string (K l 0), .string (K l 1), .string (K l 2)], .int .i64 0]) ∧ Ring w' g m K (upd b l) ∧ Gw g w w' := by
  have HK := Lib.hid hK
  have H := Lib.hid h
  have HLT := Lib.hid h.row.lt
  have KZ := Lib.hid keys_zero
  have KS := Lib.hid lanes_size
  have t1 : ((l : Int) < 0) = False := by simp
  have t2 : ((l : Int) ≥ 5) = False := by simp; omega
  clear hK h
  go_enter Tryd.func55, Tryd.ntmps55
  go_wp2_with (first
    | (with_reducible refine box_cell (o := ⟨some 2, _, _, _, _, _⟩) rfl _ _ rfl (.pointer (some ⟨g, 0, none⟩)) rfl rfl ?_; intro w1 hr1 hb1 hz1; have HR1 := Lib.hid hr1; have HB1 := Lib.hid hb1; have HZ1 := Lib.hid hz1; clear hr1 hb1 hz1)
    | (with_reducible refine box_cell (o := ⟨some 3, _, _, _, _, _⟩) rfl _ _ rfl (.int .i64 (l : Int)) rfl rfl ?_; intro w2 hr2 hb2 hz2; have HR2 := Lib.hid hr2; have HR1b := Lib.hid (HR1.out.below hb2 HR1.out.lt); have HB2 := Lib.hid (HB1.out.trans (hb2.mono HB1.out.size)); have HZ2 := Lib.hid hz2; clear hr2 hb2 hz2)
    | (with_reducible refine alloc_row (o := ⟨some 4, _, _, _, _, _⟩) rfl _ rfl _ KZ.out ?_; intro w3 hr3 hb3 hz3; have HR3 := Lib.hid hr3; have HR1c := Lib.hid (HR1b.out.below hb3 HR1b.out.lt); have HR2c := Lib.hid (HR2.out.below hb3 HR2.out.lt); have HB3 := Lib.hid (HB2.out.trans (hb3.mono HB2.out.size)); have HZ3 := Lib.hid hz3; clear hr3 hb3 hz3; have p1 := HR1c.out.k0; have p2 := HR2c.out.k0; have p0 : w3.cell? ⟨g, 0, none⟩ = some (.bool true) := by (rw [(H.out.row.below HB3.out HLT.out).cellV]; exact ringC_made _ _ _)))
  refine wp_region_inv (by kernel_rfl) (by kernel_rfl) (fun a0 d a' v => ∃ u24 u25 u26 u27 u28 u6 gb, a' = (((((a0.put (some 24) u24).put (some 25) u25).put (some 26) u26).put (some 27) u27).put (some 28) u28).put (some 6) u6 ∧
    RG w3 g l v (d.getD 0 false) (d.getD 1 false) (d.getD 2 false) (d.getD 3 false) (d.getD 4 false) (d.getD 5 false) (d.getD 6 false) u24 u25 u26 u27 u28 u6 gb) ?_ ?_ ?_
  · refine ⟨undef, undef, undef, undef, undef, undef, 0, by go_simp, ?_⟩
    exact { bel := (Below.refl _ _).drew, f0 := (by intro h; cases h), f1 := (by intro h; cases h), f2 := (by intro h; cases h), f3 := (by intro h; cases h), f4 := (by intro h; cases h), f5 := (by intro h; cases h), f6 := (by intro h; cases h) }
  · intro d a' v i o hs hI ho hu he M hM
    obtain ⟨u24, u25, u26, u27, u28, u6, gb, rfl, x⟩ := hI
    obtain ⟨dl⟩ := d
    match dl, hs with
    | [e0, e1, e2, e3, e4, e5, e6], _ =>
    have x : RG w3 g l v e0 e1 e2 e3 e4 e5 e6 u24 u25 u26 u27 u28 u6 gb := x
    have q1 := (HR1c.out.below x.bel HR1c.out.lt).k0
    have q2 := (HR2c.out.below x.bel HR2c.out.lt).k0
    have hi : i < 7 := by have := (List.getElem?_eq_some_iff.1 ho).1; simpa using this
    have hi' : i = 0 ∨ i = 1 ∨ i = 2 ∨ i = 3 ∨ i = 4 ∨ i = 5 ∨ i = 6 := by omega
    rcases hi' with rfl | rfl | rfl | rfl | rfl | rfl | rfl
    all_goals
      simp only [List.getElem?_cons_zero, List.getElem?_cons_succ, Option.some.injEq] at ho
      subst ho
      simp [Region.binds] at he hu
    · refine val_list rfl (.pointer (some ⟨g, 0, none⟩)) (by go_simp) ?_
      refine hM _ _ ⟨.pointer (some ⟨g, 0, none⟩), u25, u26, u27, u28, u6, gb, by go_simp, ?_⟩
      show RG w3 g l v true e1 e2 e3 e4 e5 e6 (.pointer (some ⟨g, 0, none⟩)) u25 u26 u27 u28 u6 gb
      exact { x with f0 := fun _ => rfl }
    · refine val_list rfl (.int .i64 (l : Int)) (by go_simp) ?_
      refine hM _ _ ⟨u24, .int .i64 (l : Int), u26, u27, u28, u6, gb, by go_simp, ?_⟩
      show RG w3 g l v e0 true e2 e3 e4 e5 e6 u24 (.int .i64 (l : Int)) u26 u27 u28 u6 gb
      exact { x with f1 := fun _ => rfl }
    · have h0 := x.f0 he
      subst h0
      refine val_list rfl (.pointer (some ⟨g, 0, none⟩)) (by go_simp) ?_
      refine hM _ _ ⟨.pointer (some ⟨g, 0, none⟩), u25, .pointer (some ⟨g, 0, none⟩), u27, u28, u6, gb, by go_simp, ?_⟩
      show RG w3 g l v e0 e1 true e3 e4 e5 e6 (.pointer (some ⟨g, 0, none⟩)) u25 (.pointer (some ⟨g, 0, none⟩)) u27 u28 u6 gb
      exact { x with f2 := fun _ => rfl }
    · have h0 := x.f2 he
      subst h0
      refine val_list rfl (.pointer (some ⟨g, 2, none⟩)) (by go_simp) ?_
      refine hM _ _ ⟨u24, u25, .pointer (some ⟨g, 0, none⟩), .pointer (some ⟨g, 2, none⟩), u28, u6, gb, by go_simp, ?_⟩
      show RG w3 g l v e0 e1 e2 true e4 e5 e6 u24 u25 (.pointer (some ⟨g, 0, none⟩)) (.pointer (some ⟨g, 2, none⟩)) u28 u6 gb
      exact { x with f3 := fun _ => rfl }
    · have h0 := x.f3 he.1
      have h1 := x.f1 he.2
      subst h0 h1
      refine val_list rfl (.pointer (some ⟨g, 2 + l * 6, none⟩)) (by go_simp) ?_
      refine hM _ _ ⟨u24, .int .i64 (l : Int), u26, .pointer (some ⟨g, 2, none⟩), .pointer (some ⟨g, 2 + l * 6, none⟩), u6, gb, by go_simp, ?_⟩
      show RG w3 g l v e0 e1 e2 e3 true e5 e6 u24 (.int .i64 (l : Int)) u26 (.pointer (some ⟨g, 2, none⟩)) (.pointer (some ⟨g, 2 + l * 6, none⟩)) u6 gb
      exact { x with f4 := fun _ => rfl }
    · refine alloc_cell rfl _ rfl (.pointer none) rfl plane_zero ?_
      intro v' hr hb hz
      refine hM _ _ ⟨u24, u25, u26, u27, u28, .pointer (some ⟨v.heap.size, 0, none⟩), v.heap.size, by go_simp, ?_⟩
      show RG w3 g l v' e0 e1 e2 e3 e4 true e6 u24 u25 u26 u27 u28 (.pointer (some ⟨v.heap.size, 0, none⟩)) v.heap.size
      exact { bel := x.bel.trans (hb.mono x.bel.size), f0 := x.f0, f1 := x.f1, f2 := x.f2, f3 := x.f3, f4 := x.f4, f5 := fun _ => ⟨rfl, x.bel.size, fun _ => hr⟩, f6 := fun h => by have := (x.f6 h).1; rw [hu] at this; cases this }
    · have h5 : e5 = true := by simp_all
      have h4 : e4 = true := by simp_all
      obtain ⟨g1, g2, g3⟩ := x.f5 h5
      have h28 := x.f4 h4
      subst g1 h28
      refine store_cell rfl _ _ _ rfl gb 0 (.pointer (some ⟨g, 2 + l * 6, none⟩)) (by go_simp) (by go_simp) rfl rfl 123 _ (g3 hu) plane_size (by simp) ?_
      intro v' hr hup
      refine hM _ _ ⟨u24, u25, u26, u27, .pointer (some ⟨g, 2 + l * 6, none⟩), .pointer (some ⟨gb, 0, none⟩), gb, by go_simp, ?_⟩
      show RG w3 g l v' e0 e1 e2 e3 e4 e5 true u24 u25 u26 u27 (.pointer (some ⟨g, 2 + l * 6, none⟩)) (.pointer (some ⟨gb, 0, none⟩)) gb
      exact { bel := x.bel.trans (hup.below g2), f0 := x.f0, f1 := x.f1, f2 := x.f2, f3 := x.f3, f4 := x.f4, f5 := fun _ => ⟨rfl, g2, fun h => by cases h⟩, f6 := fun _ => ⟨h5, hr⟩ }
  · intro a' v hI
    obtain ⟨u24, u25, u26, u27, u28, u6, gb, rfl, xx⟩ := hI
    have x : RG w3 g l v true true true true true true true u24 u25 u26 u27 u28 u6 gb := xx
    clear xx
    have g0 := x.f0 rfl
    have g1 := x.f1 rfl
    have g2 := x.f2 rfl
    have g3 := x.f3 rfl
    have g4 := x.f4 rfl
    obtain ⟨g5, g6, -⟩ := x.f5 rfl
    obtain ⟨-, hrb⟩ := x.f6 rfl
    subst g0 g1 g2 g3 g4 g5
    have HBV := Lib.hid (HB3.out.trans (x.bel.mono HB3.out.size))
    have HRB := Lib.hid hrb
    have HRV := Lib.hid (H.out.row.below HBV.out HLT.out)
    have HR1v := Lib.hid (HR1c.out.below x.bel HR1c.out.lt)
    have HR2v := Lib.hid (HR2c.out.below x.bel HR2c.out.lt)
    have HR3v := Lib.hid (HR3.out.below x.bel HR3.out.lt)
    have HGB := Lib.hid g6
    have HN1 := Lib.hid (show w.heap.size ≠ g by have := HLT.out; omega)
    have HN2 := Lib.hid (show w1.heap.size ≠ g by have := HLT.out; have := HZ1.out; omega)
    have HN3 := Lib.hid (show w2.heap.size ≠ g by have := HLT.out; have := HZ1.out; have := HZ2.out; omega)
    have HNB := Lib.hid (show gb ≠ g by have := HLT.out; have := HB3.out.size; omega)
    have HKV := Lib.hid (HK.out.below HBV.out HK.out.pos)
    clear x hrb g6 p0 p1 p2
    have p6 := HRB.out.k0
    go_wp2_with fail
    refine (once_any g m K b l _ _ _ v hl hm HKV.out HRV.out H.out.keys HR1v.out.k0 HR2v.out.k0 HRB.out.k0 HR1v.out.lt HR2v.out.lt HRB.out.lt HN1.out HN2.out HNB.out hg0).mono ?_
    rintro e w4 ⟨rfl, hr4, hg4⟩
    have HR4 := Lib.hid hr4
    have HG4 := Lib.hid ((Gw.of_below HBV.out).trans hg4)
    have HR3x := Lib.hid (HR3v.out.gw hg4 HN3.out)
    have p7 := (HRB.out.gw hg4 HNB.out).k0
    have hld : ∀ j u, [Value.string (K l 0), .string (K l 1), .string (K l 2)][j]? = some u → w4.cell? ⟨g, 2 + l * 6 + 3 + j, none⟩ = some u := by
      intro j u hj
      have hj3 : j < 3 := by have := (List.getElem?_eq_some_iff.1 hj).1; simpa using this
      rw [hr4.cellV, show 2 + l * 6 + 3 + j = 2 + l * 6 + (3 + j) by omega, ringC_lane m K (upd b l) l (3 + j) hl (by omega)]
      have hub : upd b l l = true := by unfold upd; rw [if_pos rfl]
      rw [hub, ← hj]
      have h3 : j = 0 ∨ j = 1 ∨ j = 2 := by omega
      rcases h3 with rfl | rfl | rfl <;> rfl
    have HLD := Lib.hid hld
    clear hr4 hg4 hld p6
    go_wp2_with (first
      | (refine load_cells (o := ⟨some 37, _, _, _, _, _⟩) rfl _ _ rfl g (2 + l * 6 + 3) (by go_simp) [.string (K l 0), .string (K l 1), .string (K l 2)] _ HLD.out Tryd.underlying53 rfl KS.out ?_)
      | (refine store_row (o := ⟨none, _, _, _, _, _⟩) rfl _ _ _ rfl w2.heap.size [.string (K l 0), .string (K l 1), .string (K l 2)] (by go_simp) (by go_simp) 53 _ HR3x.out KS.out rfl (by intro v hv; simp at hv; rcases hv with rfl | rfl | rfl <;> rfl) ?_; intro w5 hr5 hu5; have HR5 := Lib.hid hr5; have HG5 := Lib.hid (HG4.out.tail (show w.heap.size ≤ w2.heap.size by have := HZ1.out; have := HZ2.out; omega) hu5); have HR6 := Lib.hid (HR4.out.upd hu5 (Ne.symm HN3.out)); clear hr5 hu5))
    exact bodyPost_ret (results_row_tmp rfl _ _ w2.heap.size 53 _ _ _ (by go_simp) HR5.out Tryd.underlying53 rfl KS.out) rfl ⟨rfl, ⟨HR6.out, H.out.keys⟩, HG5.out⟩

end Go.Proofs.YtagblhkihammdaaDoor.W
