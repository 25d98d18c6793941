/- LAYER 11 (record): what a record's kind has (own of the program, only of the reference). -/
import Derived.Test.YtbcaphkbjeejhaaRcS
import Derived.BigRegion
set_option linter.unusedSimpArgs false
set_option linter.unusedVariables false
namespace Go.Proofs.Ytbcaphkbjeejhaa.W
open Go Go.ChangeShapes Go.WideShapes Go.ChangeAt Go.RowKit
open Go.Proofs.Ytbcaphkbjeejhaa.P (enc dec)

/-- STORE of a struct into a part of a row. -/
theorem store_part {P : Program} {w : World} {ops : Array Oper} {rest : List Oper} {o : Oper} {a : Act} {Q : Exit → Act → World → Prop} (hgd : o.guard = none) (ty : TypeId) (x y : Operand) (ho : o.op = .store ty x y)
    (g off : Nat) (cells : List Value) (hx : a.eval x = .pointer (some ⟨g, off, none⟩)) (hy : a.eval y = .agg cells.toArray)
    (t : TypeId) (L : List Value) (hg : Row w g t L) (hi : (P.info? ty).map (·.size) = some cells.length) (hfit : off + cells.length ≤ L.length) (h1 : ∀ v ∈ cells, v.oneCell' = true)
    (h : ∀ w', Row w' g t (splice L off cells) → Upd w w' g → wpList P ops Q rest (a.put o.dst undef) w') : wpList P ops Q (o :: rest) a w := by
  refine wpList_plain hgd fun K hK => ?_
  have hrun := run_storeCells_at (P := P) g off t cells 0 L.toArray w hg (by simpa using hfit) h1
  unfold Oper.wp execOp
  cases hq : P.info? ty with
  | none => simp [hq] at hi
  | some i =>
    have hs : i.size = cells.length := by simpa [hq] using hi
    simp [ho, hx, hy, Instr.storeAt, Instr.sureAddr, storeVar, sizeOf, typeInfo, hq, hs, Value.cells, hrun, Result.andThen]
    refine hK _ _ (h _ ?_ (Upd.setRow _ _ _))
    unfold Row
    rw [setRow_heap w g _ _ _ _ hg]
    congr 2
def Rc.z (k : Int) : Rc := ⟨k, 0, 0, ⟨0, 0, 0, none, 0, 0⟩, 0, 0, none, 0, 0⟩
def Rc.own (r : Rc) : Rc :=
  if r.k = 1 then ⟨1, r.t, 0, ⟨0, 0, 0, none, 0, 0⟩, r.i, r.f, r.a, r.n, r.c⟩ else if r.k = 2 then ⟨2, r.t, r.v, ⟨0, 0, 0, none, 0, 0⟩, 0, 0, none, 0, 0⟩
  else if r.k = 3 then ⟨3, 0, 0, r.e, 0, 0, none, 0, 0⟩ else if r.k = 4 then ⟨4, 0, 0, ⟨0, 0, 0, none, 0, 0⟩, r.i, 0, none, 0, 0⟩ else Rc.z r.k
def Rc.only (r : Rc) : Rc :=
  if r.k = 1 then ⟨1, r.t, 0, ⟨0, 0, 0, none, 0, 0⟩, r.i, r.f, r.a, r.n, r.c⟩ else if r.k = 2 then ⟨2, r.t, r.v, ⟨0, 0, 0, none, 0, 0⟩, 0, 0, none, 0, 0⟩
  else if r.k = 3 then ⟨3, 0, 0, r.e, 0, 0, none, 0, 0⟩ else ⟨r.k, 0, 0, ⟨0, 0, 0, none, 0, 0⟩, r.i, 0, none, 0, 0⟩
theorem rc_zero : (Try.prog.info? 29).map (·.zero) = some (some (.agg (Rc.z 0).cells.toArray)) := by kernel_rfl
theorem rc_one (r : Rc) : ∀ v ∈ r.cells, v.oneCell' = true := by
  intro v hv
  simp [Rc.cells] at hv
  rcases hv with rfl | rfl | rfl | rfl | rfl | rfl | rfl | rfl | rfl | rfl <;> rfl
theorem en_one (e : En) : ∀ v ∈ e.cells, v.oneCell' = true := by
  intro v hv
  simp [En.cells] at hv
  rcases hv with rfl | rfl | rfl | rfl <;> rfl
theorem built_k (k : Int) : Try.prog.built 29 [(0, .int .i64 k)] = some (Rc.z k).cells.toArray := by kernel_rfl
theorem kinds (k : Int) : k = 1 ∨ k = 2 ∨ k = 3 ∨ k = 4 ∨ ((k == 1) = false ∧ (k == 2) = false ∧ (k == 3) = false ∧ (k == 4) = false) := by
  by_cases h1 : k = 1
  · exact .inl h1
  by_cases h2 : k = 2
  · exact .inr (.inl h2)
  by_cases h3 : k = 3
  · exact .inr (.inr (.inl h3))
  by_cases h4 : k = 4
  · exact .inr (.inr (.inr (.inl h4)))
  · exact .inr (.inr (.inr (.inr ⟨by simpa using h1, by simpa using h2, by simpa using h3, by simpa using h4⟩)))

set_option maxRecDepth 100000 in
set_option maxHeartbeats 8000000 in
theorem rown1 (t v ix tm kd i f : Int) (a sa : Option Addr) (n c sn sc : Nat) (w : World) : Calls Try.prog 93 #[.agg (Rc.cells ⟨1, t, v, ⟨ix, tm, kd, a, n, c⟩, i, f, sa, sn, sc⟩).toArray] w fun x w' => x = .returned (.agg (Rc.cells (⟨1, t, 0, ⟨0, 0, 0, none, 0, 0⟩, i, f, sa, sn, sc⟩)).toArray) ∧ Below w.heap.size w w' := by
  have RZ := Lib.hid rc_zero
  have RS := Lib.hid rc_size
  unfold Rc.cells
  dsimp only
  go_enter Try.func93, Try.ntmps93
  go_wp2_with (first
    | (with_reducible refine box_row (o := ⟨some 1, _, _, _, _, _⟩) rfl _ _ rfl [.int .i64 1, .int .i64 t, .int .i64 v, .int .i64 ix, .int .i64 tm, .int .i64 kd, .slice a n c, .int .i64 i, .int .i64 f, .slice sa sn sc] rfl ?_; intro w1 hr1 hb1 hz1; have HR1 := Lib.hid hr1; have L1 := Lib.hid hr1.lt; have B1 := Lib.hid hb1; clear hr1 hb1 hz1)
    | ((with_reducible refine alloc_row (o := ⟨some 2, _, _, _, _, _⟩) rfl _ rfl _ RZ.out ?_); intro w2 hr2 hb2 hz2; have HR2 := Lib.hid hr2; obtain ⟨c0, c1, c2, c3, c4, c5, c6, c7, c8, c9⟩ := (HR1.out.below hb2 HR1.out.lt).q10; have HR1 := Lib.hid (HR1.out.below hb2 HR1.out.lt); have B2 := Lib.hid (B1.out.trans (hb2.mono B1.out.size)); clear hr2 hb2 hz2)
    | ((with_reducible refine build_row (o := ⟨some 6, _, _, _, _, _⟩) rfl _ _ rfl (Rc.z 1).cells ?_ ?_); (focus (go_simp; exact built_k _)))
    | ((with_reducible refine alloc_row (o := ⟨some 3, _, _, _, _, _⟩) rfl _ rfl _ RZ.out ?_); intro w3 hr3 hb3 hz3; have HR3 := Lib.hid hr3; have L3 := Lib.hid (show w1.heap.size < w2.heap.size from HR2.out.lt); have HR1 := Lib.hid (HR1.out.below hb3 HR1.out.lt); have HR2 := Lib.hid (HR2.out.below hb3 HR2.out.lt); have B3 := Lib.hid (B2.out.trans (hb3.mono B2.out.size)); clear hr3 hb3 hz3 c0 c1 c2 c3 c4 c5 c6 c7 c8 c9)
    | ((with_reducible refine store_row (o := ⟨none, _, _, _, _, _⟩) rfl _ (.tmp 3) _ rfl w2.heap.size (Rc.z 1).cells ?_ ?_ 29 _ HR3.out ?_ ?_ ?_ ?_); (focus go_simp); (focus (first | (go_simp; done) | (go_simp; rfl))); (focus (exact RS.out)); (focus rfl); (focus (exact rc_one _)); intro w4 hr4 hu4; have HR4 := Lib.hid hr4; have HR1 := Lib.hid (HR1.out.upd hu4 (by have := L3.out; have := L1.out; omega)); have HR2 := Lib.hid (HR2.out.upd hu4 (by have := L3.out; omega)); have B4 := Lib.hid (B3.out.trans (hu4.below (by have := B2.out.size; omega))); obtain ⟨c0, c1, c2, c3, c4, c5, c6, c7, c8, c9⟩ := HR1.out.q10; have hfz := fun i => HR4.out.frozen i; obtain ⟨d0, d1, d2, d3, d4, d5, d6, d7, d8, d9⟩ := HR4.out.q10; clear hr4 hu4))
  have hne : w.heap.size ≠ w2.heap.size := by have := L3.out; have := L1.out; omega
  have hne2 : w2.heap.size ≠ w.heap.size := hne.symm
  go_region
  have R5 := Lib.hid (((((HR4.out.setV 7 (.int .i64 i)).setV 1 (.int .i64 t)).setV 8 (.int .i64 f)).setV 9 (.slice sa sn sc)).drewN 1)
  have U5 := Lib.hid ((((Upd.setCell w4 w2.heap.size 7 (.int .i64 i)).trans (Upd.setCell _ _ 1 (.int .i64 t))).trans (Upd.setCell _ _ 8 (.int .i64 f))).trans (Upd.setCell _ _ 9 (.slice sa sn sc)))
  have R2 := Lib.hid ((HR2.out.upd U5.out (by have := L3.out; omega)).drewN 1)
  have B5 := Lib.hid (below_drewN (B4.out.trans (U5.out.below (by have := B2.out.size; omega))) 1)
  clear c0 c1 c2 c3 c4 c5 c6 c7 c8 c9 d0 d1 d2 d3 d4 d5 d6 d7 d8 d9 hfz
  clear U5
  obtain ⟨w5, hw5⟩ : ∃ w5, ((((w4.setCell ⟨w2.heap.size, 7, none⟩ (.int .i64 i)).setCell ⟨w2.heap.size, 1, none⟩ (.int .i64 t)).setCell ⟨w2.heap.size, 8, none⟩ (.int .i64 f)).setCell ⟨w2.heap.size, 9, none⟩ (.slice sa sn sc)).drew = w5 := ⟨_, rfl⟩
  have R5 := Lib.hid (show Row w5 w2.heap.size 29 (Rc.cells (⟨1, t, 0, ⟨0, 0, 0, none, 0, 0⟩, i, f, sa, sn, sc⟩)) by rw [← hw5]; exact R5.out)
  have R2 := Lib.hid (show Row w5 w1.heap.size 29 _ by rw [← hw5]; exact R2.out)
  have B5 := Lib.hid (show Below w.heap.size w w5 by rw [← hw5]; exact B5.out)
  rw [hw5]
  clear hw5
  go_wp2_with (first
    | ((with_reducible refine load_row (o := ⟨some 41, _, _, _, _, _⟩) rfl _ _ rfl w2.heap.size ?_ _ (Rc.cells (⟨1, t, 0, ⟨0, 0, 0, none, 0, 0⟩, i, f, sa, sn, sc⟩)) _ R5.out Try.underlying29 rfl ?_ ?_); (focus go_simp); (focus (exact RS.out)))
    | ((with_reducible refine store_row (o := ⟨none, _, _, _, _, _⟩) rfl _ (.tmp 2) _ rfl w1.heap.size (Rc.cells (⟨1, t, 0, ⟨0, 0, 0, none, 0, 0⟩, i, f, sa, sn, sc⟩)) ?_ ?_ 29 _ R2.out ?_ ?_ ?_ ?_); (focus go_simp); (focus (first | (go_simp; done) | (go_simp; rfl))); (focus (exact RS.out)); (focus rfl); (focus (exact rc_one _)); intro w6 hr6 hu6; have R6 := Lib.hid hr6; have B6 := Lib.hid (B5.out.trans (hu6.below B1.out.size)); clear hr6 hu6))
  exact bodyPost_ret (results_cell_row rfl _ _ w1.heap.size 29 _ _ _ (by go_simp) R6.out Try.underlying29 rfl RS.out) rfl ⟨rfl, B6.out⟩
set_option maxRecDepth 100000 in
set_option maxHeartbeats 8000000 in
theorem rown2 (t v ix tm kd i f : Int) (a sa : Option Addr) (n c sn sc : Nat) (w : World) : Calls Try.prog 93 #[.agg (Rc.cells ⟨2, t, v, ⟨ix, tm, kd, a, n, c⟩, i, f, sa, sn, sc⟩).toArray] w fun x w' => x = .returned (.agg (Rc.cells (⟨2, t, v, ⟨0, 0, 0, none, 0, 0⟩, 0, 0, none, 0, 0⟩)).toArray) ∧ Below w.heap.size w w' := by
  have RZ := Lib.hid rc_zero
  have RS := Lib.hid rc_size
  unfold Rc.cells
  dsimp only
  go_enter Try.func93, Try.ntmps93
  go_wp2_with (first
    | (with_reducible refine box_row (o := ⟨some 1, _, _, _, _, _⟩) rfl _ _ rfl [.int .i64 2, .int .i64 t, .int .i64 v, .int .i64 ix, .int .i64 tm, .int .i64 kd, .slice a n c, .int .i64 i, .int .i64 f, .slice sa sn sc] rfl ?_; intro w1 hr1 hb1 hz1; have HR1 := Lib.hid hr1; have L1 := Lib.hid hr1.lt; have B1 := Lib.hid hb1; clear hr1 hb1 hz1)
    | ((with_reducible refine alloc_row (o := ⟨some 2, _, _, _, _, _⟩) rfl _ rfl _ RZ.out ?_); intro w2 hr2 hb2 hz2; have HR2 := Lib.hid hr2; obtain ⟨c0, c1, c2, c3, c4, c5, c6, c7, c8, c9⟩ := (HR1.out.below hb2 HR1.out.lt).q10; have HR1 := Lib.hid (HR1.out.below hb2 HR1.out.lt); have B2 := Lib.hid (B1.out.trans (hb2.mono B1.out.size)); clear hr2 hb2 hz2)
    | ((with_reducible refine build_row (o := ⟨some 6, _, _, _, _, _⟩) rfl _ _ rfl (Rc.z 2).cells ?_ ?_); (focus (go_simp; exact built_k _)))
    | ((with_reducible refine alloc_row (o := ⟨some 3, _, _, _, _, _⟩) rfl _ rfl _ RZ.out ?_); intro w3 hr3 hb3 hz3; have HR3 := Lib.hid hr3; have L3 := Lib.hid (show w1.heap.size < w2.heap.size from HR2.out.lt); have HR1 := Lib.hid (HR1.out.below hb3 HR1.out.lt); have HR2 := Lib.hid (HR2.out.below hb3 HR2.out.lt); have B3 := Lib.hid (B2.out.trans (hb3.mono B2.out.size)); clear hr3 hb3 hz3 c0 c1 c2 c3 c4 c5 c6 c7 c8 c9)
    | ((with_reducible refine store_row (o := ⟨none, _, _, _, _, _⟩) rfl _ (.tmp 3) _ rfl w2.heap.size (Rc.z 2).cells ?_ ?_ 29 _ HR3.out ?_ ?_ ?_ ?_); (focus go_simp); (focus (first | (go_simp; done) | (go_simp; rfl))); (focus (exact RS.out)); (focus rfl); (focus (exact rc_one _)); intro w4 hr4 hu4; have HR4 := Lib.hid hr4; have HR1 := Lib.hid (HR1.out.upd hu4 (by have := L3.out; have := L1.out; omega)); have HR2 := Lib.hid (HR2.out.upd hu4 (by have := L3.out; omega)); have B4 := Lib.hid (B3.out.trans (hu4.below (by have := B2.out.size; omega))); obtain ⟨c0, c1, c2, c3, c4, c5, c6, c7, c8, c9⟩ := HR1.out.q10; have hfz := fun i => HR4.out.frozen i; obtain ⟨d0, d1, d2, d3, d4, d5, d6, d7, d8, d9⟩ := HR4.out.q10; clear hr4 hu4))
  have hne : w.heap.size ≠ w2.heap.size := by have := L3.out; have := L1.out; omega
  have hne2 : w2.heap.size ≠ w.heap.size := hne.symm
  go_region
  have R5 := Lib.hid (((HR4.out.setV 1 (.int .i64 t)).setV 2 (.int .i64 v)).drewN 1)
  have U5 := Lib.hid ((Upd.setCell w4 w2.heap.size 1 (.int .i64 t)).trans (Upd.setCell _ _ 2 (.int .i64 v)))
  have R2 := Lib.hid ((HR2.out.upd U5.out (by have := L3.out; omega)).drewN 1)
  have B5 := Lib.hid (below_drewN (B4.out.trans (U5.out.below (by have := B2.out.size; omega))) 1)
  clear c0 c1 c2 c3 c4 c5 c6 c7 c8 c9 d0 d1 d2 d3 d4 d5 d6 d7 d8 d9 hfz
  clear U5
  obtain ⟨w5, hw5⟩ : ∃ w5, ((w4.setCell ⟨w2.heap.size, 1, none⟩ (.int .i64 t)).setCell ⟨w2.heap.size, 2, none⟩ (.int .i64 v)).drew = w5 := ⟨_, rfl⟩
  have R5 := Lib.hid (show Row w5 w2.heap.size 29 (Rc.cells (⟨2, t, v, ⟨0, 0, 0, none, 0, 0⟩, 0, 0, none, 0, 0⟩)) by rw [← hw5]; exact R5.out)
  have R2 := Lib.hid (show Row w5 w1.heap.size 29 _ by rw [← hw5]; exact R2.out)
  have B5 := Lib.hid (show Below w.heap.size w w5 by rw [← hw5]; exact B5.out)
  rw [hw5]
  clear hw5
  go_wp2_with (first
    | ((with_reducible refine load_row (o := ⟨some 41, _, _, _, _, _⟩) rfl _ _ rfl w2.heap.size ?_ _ (Rc.cells (⟨2, t, v, ⟨0, 0, 0, none, 0, 0⟩, 0, 0, none, 0, 0⟩)) _ R5.out Try.underlying29 rfl ?_ ?_); (focus go_simp); (focus (exact RS.out)))
    | ((with_reducible refine store_row (o := ⟨none, _, _, _, _, _⟩) rfl _ (.tmp 2) _ rfl w1.heap.size (Rc.cells (⟨2, t, v, ⟨0, 0, 0, none, 0, 0⟩, 0, 0, none, 0, 0⟩)) ?_ ?_ 29 _ R2.out ?_ ?_ ?_ ?_); (focus go_simp); (focus (first | (go_simp; done) | (go_simp; rfl))); (focus (exact RS.out)); (focus rfl); (focus (exact rc_one _)); intro w6 hr6 hu6; have R6 := Lib.hid hr6; have B6 := Lib.hid (B5.out.trans (hu6.below B1.out.size)); clear hr6 hu6))
  exact bodyPost_ret (results_cell_row rfl _ _ w1.heap.size 29 _ _ _ (by go_simp) R6.out Try.underlying29 rfl RS.out) rfl ⟨rfl, B6.out⟩
set_option maxRecDepth 100000 in
set_option maxHeartbeats 8000000 in
theorem rown3 (t v ix tm kd i f : Int) (a sa : Option Addr) (n c sn sc : Nat) (w : World) : Calls Try.prog 93 #[.agg (Rc.cells ⟨3, t, v, ⟨ix, tm, kd, a, n, c⟩, i, f, sa, sn, sc⟩).toArray] w fun x w' => x = .returned (.agg (Rc.cells (⟨3, 0, 0, ⟨ix, tm, kd, a, n, c⟩, 0, 0, none, 0, 0⟩)).toArray) ∧ Below w.heap.size w w' := by
  have RZ := Lib.hid rc_zero
  have RS := Lib.hid rc_size
  unfold Rc.cells
  dsimp only
  go_enter Try.func93, Try.ntmps93
  go_wp2_with (first
    | (with_reducible refine box_row (o := ⟨some 1, _, _, _, _, _⟩) rfl _ _ rfl [.int .i64 3, .int .i64 t, .int .i64 v, .int .i64 ix, .int .i64 tm, .int .i64 kd, .slice a n c, .int .i64 i, .int .i64 f, .slice sa sn sc] rfl ?_; intro w1 hr1 hb1 hz1; have HR1 := Lib.hid hr1; have L1 := Lib.hid hr1.lt; have B1 := Lib.hid hb1; clear hr1 hb1 hz1)
    | ((with_reducible refine alloc_row (o := ⟨some 2, _, _, _, _, _⟩) rfl _ rfl _ RZ.out ?_); intro w2 hr2 hb2 hz2; have HR2 := Lib.hid hr2; obtain ⟨c0, c1, c2, c3, c4, c5, c6, c7, c8, c9⟩ := (HR1.out.below hb2 HR1.out.lt).q10; have HR1 := Lib.hid (HR1.out.below hb2 HR1.out.lt); have B2 := Lib.hid (B1.out.trans (hb2.mono B1.out.size)); clear hr2 hb2 hz2)
    | ((with_reducible refine build_row (o := ⟨some 6, _, _, _, _, _⟩) rfl _ _ rfl (Rc.z 3).cells ?_ ?_); (focus (go_simp; exact built_k _)))
    | ((with_reducible refine alloc_row (o := ⟨some 3, _, _, _, _, _⟩) rfl _ rfl _ RZ.out ?_); intro w3 hr3 hb3 hz3; have HR3 := Lib.hid hr3; have L3 := Lib.hid (show w1.heap.size < w2.heap.size from HR2.out.lt); have HR1 := Lib.hid (HR1.out.below hb3 HR1.out.lt); have HR2 := Lib.hid (HR2.out.below hb3 HR2.out.lt); have B3 := Lib.hid (B2.out.trans (hb3.mono B2.out.size)); clear hr3 hb3 hz3 c0 c1 c2 c3 c4 c5 c6 c7 c8 c9)
    | ((with_reducible refine store_row (o := ⟨none, _, _, _, _, _⟩) rfl _ (.tmp 3) _ rfl w2.heap.size (Rc.z 3).cells ?_ ?_ 29 _ HR3.out ?_ ?_ ?_ ?_); (focus go_simp); (focus (first | (go_simp; done) | (go_simp; rfl))); (focus (exact RS.out)); (focus rfl); (focus (exact rc_one _)); intro w4 hr4 hu4; have HR4 := Lib.hid hr4; have HR1 := Lib.hid (HR1.out.upd hu4 (by have := L3.out; have := L1.out; omega)); have HR2 := Lib.hid (HR2.out.upd hu4 (by have := L3.out; omega)); have B4 := Lib.hid (B3.out.trans (hu4.below (by have := B2.out.size; omega))); obtain ⟨c0, c1, c2, c3, c4, c5, c6, c7, c8, c9⟩ := HR1.out.q10; have hfz := fun i => HR4.out.frozen i; obtain ⟨d0, d1, d2, d3, d4, d5, d6, d7, d8, d9⟩ := HR4.out.q10; clear hr4 hu4)
    | ((with_reducible refine load_cells (o := ⟨some 34, _, _, _, _, _⟩) rfl _ _ rfl w.heap.size 3 ?_ [.int .i64 ix, .int .i64 tm, .int .i64 kd, .slice a n c] _ (HR1.out.ent (r := ⟨3, t, v, ⟨ix, tm, kd, a, n, c⟩, i, f, sa, sn, sc⟩)) Try.underlying27 rfl ?_ ?_); (focus go_simp); (focus (exact en_size)))
    | ((with_reducible refine store_part (o := ⟨none, _, _, _, _, _⟩) rfl _ (.tmp 35) _ rfl w2.heap.size 3 [.int .i64 ix, .int .i64 tm, .int .i64 kd, .slice a n c] ?_ ?_ 29 _ HR4.out ?_ ?_ ?_ ?_); (focus go_simp); (focus (first | (go_simp; done) | (go_simp; rfl))); (focus (exact en_size)); (focus (show 3 + 4 ≤ 10; decide)); (focus (exact en_one ⟨ix, tm, kd, a, n, c⟩)); intro w5 hr5 hu5; have R5 := Lib.hid hr5; have R2 := Lib.hid (HR2.out.upd hu5 (by have := L3.out; omega)); have B5 := Lib.hid (B4.out.trans (hu5.below (by have := B2.out.size; omega))); clear hr5 hu5 c0 c1 c2 c3 c4 c5 c6 c7 c8 c9 d0 d1 d2 d3 d4 d5 d6 d7 d8 d9 hfz)
    | ((with_reducible refine load_row (o := ⟨some 41, _, _, _, _, _⟩) rfl _ _ rfl w2.heap.size ?_ _ (Rc.cells (⟨3, 0, 0, ⟨ix, tm, kd, a, n, c⟩, 0, 0, none, 0, 0⟩)) _ R5.out Try.underlying29 rfl ?_ ?_); (focus go_simp); (focus (exact RS.out)))
    | ((with_reducible refine store_row (o := ⟨none, _, _, _, _, _⟩) rfl _ (.tmp 2) _ rfl w1.heap.size (Rc.cells (⟨3, 0, 0, ⟨ix, tm, kd, a, n, c⟩, 0, 0, none, 0, 0⟩)) ?_ ?_ 29 _ R2.out ?_ ?_ ?_ ?_); (focus go_simp); (focus (first | (go_simp; done) | (go_simp; rfl))); (focus (exact RS.out)); (focus rfl); (focus (exact rc_one _)); intro w6 hr6 hu6; have R6 := Lib.hid hr6; have B6 := Lib.hid (B5.out.trans (hu6.below B1.out.size)); clear hr6 hu6))
  exact bodyPost_ret (results_cell_row rfl _ _ w1.heap.size 29 _ _ _ (by go_simp) R6.out Try.underlying29 rfl RS.out) rfl ⟨rfl, B6.out⟩
set_option maxRecDepth 100000 in
set_option maxHeartbeats 8000000 in
theorem rown4 (t v ix tm kd i f : Int) (a sa : Option Addr) (n c sn sc : Nat) (w : World) : Calls Try.prog 93 #[.agg (Rc.cells ⟨4, t, v, ⟨ix, tm, kd, a, n, c⟩, i, f, sa, sn, sc⟩).toArray] w fun x w' => x = .returned (.agg (Rc.cells (⟨4, 0, 0, ⟨0, 0, 0, none, 0, 0⟩, i, 0, none, 0, 0⟩)).toArray) ∧ Below w.heap.size w w' := by
  have RZ := Lib.hid rc_zero
  have RS := Lib.hid rc_size
  unfold Rc.cells
  dsimp only
  go_enter Try.func93, Try.ntmps93
  go_wp2_with (first
    | (with_reducible refine box_row (o := ⟨some 1, _, _, _, _, _⟩) rfl _ _ rfl [.int .i64 4, .int .i64 t, .int .i64 v, .int .i64 ix, .int .i64 tm, .int .i64 kd, .slice a n c, .int .i64 i, .int .i64 f, .slice sa sn sc] rfl ?_; intro w1 hr1 hb1 hz1; have HR1 := Lib.hid hr1; have L1 := Lib.hid hr1.lt; have B1 := Lib.hid hb1; clear hr1 hb1 hz1)
    | ((with_reducible refine alloc_row (o := ⟨some 2, _, _, _, _, _⟩) rfl _ rfl _ RZ.out ?_); intro w2 hr2 hb2 hz2; have HR2 := Lib.hid hr2; obtain ⟨c0, c1, c2, c3, c4, c5, c6, c7, c8, c9⟩ := (HR1.out.below hb2 HR1.out.lt).q10; have HR1 := Lib.hid (HR1.out.below hb2 HR1.out.lt); have B2 := Lib.hid (B1.out.trans (hb2.mono B1.out.size)); clear hr2 hb2 hz2)
    | ((with_reducible refine build_row (o := ⟨some 6, _, _, _, _, _⟩) rfl _ _ rfl (Rc.z 4).cells ?_ ?_); (focus (go_simp; exact built_k _)))
    | ((with_reducible refine alloc_row (o := ⟨some 3, _, _, _, _, _⟩) rfl _ rfl _ RZ.out ?_); intro w3 hr3 hb3 hz3; have HR3 := Lib.hid hr3; have L3 := Lib.hid (show w1.heap.size < w2.heap.size from HR2.out.lt); have HR1 := Lib.hid (HR1.out.below hb3 HR1.out.lt); have HR2 := Lib.hid (HR2.out.below hb3 HR2.out.lt); have B3 := Lib.hid (B2.out.trans (hb3.mono B2.out.size)); clear hr3 hb3 hz3 c0 c1 c2 c3 c4 c5 c6 c7 c8 c9)
    | ((with_reducible refine store_row (o := ⟨none, _, _, _, _, _⟩) rfl _ (.tmp 3) _ rfl w2.heap.size (Rc.z 4).cells ?_ ?_ 29 _ HR3.out ?_ ?_ ?_ ?_); (focus go_simp); (focus (first | (go_simp; done) | (go_simp; rfl))); (focus (exact RS.out)); (focus rfl); (focus (exact rc_one _)); intro w4 hr4 hu4; have HR4 := Lib.hid hr4; have HR1 := Lib.hid (HR1.out.upd hu4 (by have := L3.out; have := L1.out; omega)); have HR2 := Lib.hid (HR2.out.upd hu4 (by have := L3.out; omega)); have B4 := Lib.hid (B3.out.trans (hu4.below (by have := B2.out.size; omega))); obtain ⟨c0, c1, c2, c3, c4, c5, c6, c7, c8, c9⟩ := HR1.out.q10; have hfz := fun i => HR4.out.frozen i; obtain ⟨d0, d1, d2, d3, d4, d5, d6, d7, d8, d9⟩ := HR4.out.q10; have R5 := Lib.hid (HR4.out.setV 7 (.int .i64 i)); have R2 := Lib.hid (HR2.out.upd (Upd.setCell w4 w2.heap.size 7 (.int .i64 i)) (by have := L3.out; omega)); have B5 := Lib.hid (B4.out.trans ((Upd.setCell w4 w2.heap.size 7 (.int .i64 i)).below (by have := B2.out.size; omega))); clear hr4 hu4)
    | ((with_reducible refine load_row (o := ⟨some 41, _, _, _, _, _⟩) rfl _ _ rfl w2.heap.size ?_ _ (Rc.cells (⟨4, 0, 0, ⟨0, 0, 0, none, 0, 0⟩, i, 0, none, 0, 0⟩)) _ R5.out Try.underlying29 rfl ?_ ?_); (focus go_simp); (focus (exact RS.out)))
    | ((with_reducible refine store_row (o := ⟨none, _, _, _, _, _⟩) rfl _ (.tmp 2) _ rfl w1.heap.size (Rc.cells (⟨4, 0, 0, ⟨0, 0, 0, none, 0, 0⟩, i, 0, none, 0, 0⟩)) ?_ ?_ 29 _ R2.out ?_ ?_ ?_ ?_); (focus go_simp); (focus (first | (go_simp; done) | (go_simp; rfl))); (focus (exact RS.out)); (focus rfl); (focus (exact rc_one _)); intro w6 hr6 hu6; have R6 := Lib.hid hr6; have B6 := Lib.hid (B5.out.trans (hu6.below B1.out.size)); clear hr6 hu6))
  exact bodyPost_ret (results_cell_row rfl _ _ w1.heap.size 29 _ _ _ (by go_simp) R6.out Try.underlying29 rfl RS.out) rfl ⟨rfl, B6.out⟩
set_option maxRecDepth 100000 in
set_option maxHeartbeats 8000000 in
theorem rownk (k : Int) (k1 : (k == 1) = false) (k2 : (k == 2) = false) (k3 : (k == 3) = false) (k4 : (k == 4) = false) (t v ix tm kd i f : Int) (a sa : Option Addr) (n c sn sc : Nat) (w : World) : Calls Try.prog 93 #[.agg (Rc.cells ⟨k, t, v, ⟨ix, tm, kd, a, n, c⟩, i, f, sa, sn, sc⟩).toArray] w fun x w' => x = .returned (.agg (Rc.cells (Rc.z k)).toArray) ∧ Below w.heap.size w w' := by
  have RZ := Lib.hid rc_zero
  have RS := Lib.hid rc_size
  unfold Rc.cells
  dsimp only
  go_enter Try.func93, Try.ntmps93
  go_wp2_with (first
    | (with_reducible refine box_row (o := ⟨some 1, _, _, _, _, _⟩) rfl _ _ rfl [.int .i64 k, .int .i64 t, .int .i64 v, .int .i64 ix, .int .i64 tm, .int .i64 kd, .slice a n c, .int .i64 i, .int .i64 f, .slice sa sn sc] rfl ?_; intro w1 hr1 hb1 hz1; have HR1 := Lib.hid hr1; have L1 := Lib.hid hr1.lt; have B1 := Lib.hid hb1; clear hr1 hb1 hz1)
    | ((with_reducible refine alloc_row (o := ⟨some 2, _, _, _, _, _⟩) rfl _ rfl _ RZ.out ?_); intro w2 hr2 hb2 hz2; have HR2 := Lib.hid hr2; obtain ⟨c0, c1, c2, c3, c4, c5, c6, c7, c8, c9⟩ := (HR1.out.below hb2 HR1.out.lt).q10; have HR1 := Lib.hid (HR1.out.below hb2 HR1.out.lt); have B2 := Lib.hid (B1.out.trans (hb2.mono B1.out.size)); clear hr2 hb2 hz2)
    | ((with_reducible refine build_row (o := ⟨some 6, _, _, _, _, _⟩) rfl _ _ rfl (Rc.z k).cells ?_ ?_); (focus (go_simp; exact built_k _)))
    | ((with_reducible refine alloc_row (o := ⟨some 3, _, _, _, _, _⟩) rfl _ rfl _ RZ.out ?_); intro w3 hr3 hb3 hz3; have HR3 := Lib.hid hr3; have L3 := Lib.hid (show w1.heap.size < w2.heap.size from HR2.out.lt); have HR1 := Lib.hid (HR1.out.below hb3 HR1.out.lt); have HR2 := Lib.hid (HR2.out.below hb3 HR2.out.lt); have B3 := Lib.hid (B2.out.trans (hb3.mono B2.out.size)); clear hr3 hb3 hz3 c0 c1 c2 c3 c4 c5 c6 c7 c8 c9)
    | ((with_reducible refine store_row (o := ⟨none, _, _, _, _, _⟩) rfl _ (.tmp 3) _ rfl w2.heap.size (Rc.z k).cells ?_ ?_ 29 _ HR3.out ?_ ?_ ?_ ?_); (focus go_simp); (focus (first | (go_simp; done) | (go_simp; rfl))); (focus (exact RS.out)); (focus rfl); (focus (exact rc_one _)); intro w4 hr4 hu4; have HR4 := Lib.hid hr4; have HR1 := Lib.hid (HR1.out.upd hu4 (by have := L3.out; have := L1.out; omega)); have HR2 := Lib.hid (HR2.out.upd hu4 (by have := L3.out; omega)); have B4 := Lib.hid (B3.out.trans (hu4.below (by have := B2.out.size; omega))); obtain ⟨c0, c1, c2, c3, c4, c5, c6, c7, c8, c9⟩ := HR1.out.q10; have R5 := Lib.hid HR4.out; have R2 := Lib.hid HR2.out; have B5 := Lib.hid B4.out; clear hr4 hu4)
    | ((with_reducible refine load_row (o := ⟨some 41, _, _, _, _, _⟩) rfl _ _ rfl w2.heap.size ?_ _ (Rc.cells (Rc.z k)) _ R5.out Try.underlying29 rfl ?_ ?_); (focus go_simp); (focus (exact RS.out)))
    | ((with_reducible refine store_row (o := ⟨none, _, _, _, _, _⟩) rfl _ (.tmp 2) _ rfl w1.heap.size (Rc.cells (Rc.z k)) ?_ ?_ 29 _ R2.out ?_ ?_ ?_ ?_); (focus go_simp); (focus (first | (go_simp; done) | (go_simp; rfl))); (focus (exact RS.out)); (focus rfl); (focus (exact rc_one _)); intro w6 hr6 hu6; have R6 := Lib.hid hr6; have B6 := Lib.hid (B5.out.trans (hu6.below B1.out.size)); clear hr6 hu6))
  exact bodyPost_ret (results_cell_row rfl _ _ w1.heap.size 29 _ _ _ (by go_simp) R6.out Try.underlying29 rfl RS.out) rfl ⟨rfl, B6.out⟩
theorem rown (r : Rc) (w : World) : Calls Try.prog 93 #[.agg r.cells.toArray] w fun x w' => x = .returned (.agg r.own.cells.toArray) ∧ Below w.heap.size w w' := by
  obtain ⟨k, t, v, ⟨ix, tm, kd, a, n, c⟩, i, f, sa, sn, sc⟩ := r
  rcases kinds k with rfl | rfl | rfl | rfl | ⟨k1, k2, k3, k4⟩
  · exact rown1 t v ix tm kd i f a sa n c sn sc w
  · exact rown2 t v ix tm kd i f a sa n c sn sc w
  · exact rown3 t v ix tm kd i f a sa n c sn sc w
  · exact rown4 t v ix tm kd i f a sa n c sn sc w
  · have h := rownk k k1 k2 k3 k4 t v ix tm kd i f a sa n c sn sc w
    have e : Rc.own ⟨k, t, v, ⟨ix, tm, kd, a, n, c⟩, i, f, sa, sn, sc⟩ = Rc.z k := by
      simp only [beq_eq_false_iff_ne] at k1 k2 k3 k4
      unfold Rc.own; dsimp only; rw [if_neg k1, if_neg k2, if_neg k3, if_neg k4]
    rw [e]; exact h
theorem built_o1 (k i t f : Int) (a : Option Addr) (n c : Nat) : Try.prog.built 29 [(0, .int .i64 k), (4, .int .i64 i), (1, .int .i64 t), (5, .int .i64 f), (6, .slice a n c)] = some (Rc.cells ⟨k, t, 0, ⟨0, 0, 0, none, 0, 0⟩, i, f, a, n, c⟩).toArray := by kernel_rfl
set_option maxRecDepth 100000 in
set_option maxHeartbeats 8000000 in
theorem uonly1 (t v ix tm kd i f : Int) (a sa : Option Addr) (n c sn sc : Nat) (w : World) : Calls Try.prog 98 #[.agg (Rc.cells ⟨1, t, v, ⟨ix, tm, kd, a, n, c⟩, i, f, sa, sn, sc⟩).toArray] w fun x w' => x = .returned (.agg (Rc.cells (⟨1, t, 0, ⟨0, 0, 0, none, 0, 0⟩, i, f, sa, sn, sc⟩)).toArray) ∧ Below w.heap.size w w' := by
  have RZ := Lib.hid rc_zero
  have RS := Lib.hid rc_size
  unfold Rc.cells
  dsimp only
  go_enter Try.func98, Try.ntmps98
  go_wp2_with (first
    | (with_reducible refine box_row (o := ⟨some 1, _, _, _, _, _⟩) rfl _ _ rfl [.int .i64 1, .int .i64 t, .int .i64 v, .int .i64 ix, .int .i64 tm, .int .i64 kd, .slice a n c, .int .i64 i, .int .i64 f, .slice sa sn sc] rfl ?_; intro w1 hr1 hb1 hz1; have HR1 := Lib.hid hr1; have L1 := Lib.hid hr1.lt; have B1 := Lib.hid hb1; clear hr1 hb1 hz1)
    | ((with_reducible refine alloc_row (o := ⟨some 2, _, _, _, _, _⟩) rfl _ rfl _ RZ.out ?_); intro w2 hr2 hb2 hz2; have HR2 := Lib.hid hr2; obtain ⟨c0, c1, c2, c3, c4, c5, c6, c7, c8, c9⟩ := (HR1.out.below hb2 HR1.out.lt).q10; have HR1 := Lib.hid (HR1.out.below hb2 HR1.out.lt); have B2 := Lib.hid (B1.out.trans (hb2.mono B1.out.size)); clear hr2 hb2 hz2)
    | ((with_reducible refine build_row (o := ⟨some 17, _, _, _, _, _⟩) rfl _ _ rfl (Rc.cells (⟨1, t, 0, ⟨0, 0, 0, none, 0, 0⟩, i, f, sa, sn, sc⟩)) ?_ ?_); (focus (go_simp; exact built_o1 _ _ _ _ _ _ _)))
    | ((with_reducible refine load_cells (o := ⟨some 32, _, _, _, _, _⟩) rfl _ _ rfl w.heap.size 3 ?_ [.int .i64 ix, .int .i64 tm, .int .i64 kd, .slice a n c] _ (HR1.out.ent (r := ⟨1, t, v, ⟨ix, tm, kd, a, n, c⟩, i, f, sa, sn, sc⟩)) Try.underlying27 rfl ?_ ?_); (focus go_simp); (focus (exact en_size)))
    | ((with_reducible refine store_row (o := ⟨none, _, _, _, _, _⟩) rfl _ (.tmp 2) _ rfl w1.heap.size (Rc.cells (⟨1, t, 0, ⟨0, 0, 0, none, 0, 0⟩, i, f, sa, sn, sc⟩)) ?_ ?_ 29 _ HR2.out ?_ ?_ ?_ ?_); (focus go_simp); (focus (first | (go_simp; done) | (go_simp; rfl))); (focus (exact RS.out)); (focus rfl); (focus (exact rc_one _)); intro w6 hr6 hu6; have R6 := Lib.hid hr6; have B6 := Lib.hid (B2.out.trans (hu6.below B1.out.size)); clear hr6 hu6))
  exact bodyPost_ret (results_cell_row rfl _ _ w1.heap.size 29 _ _ _ (by go_simp) R6.out Try.underlying29 rfl RS.out) rfl ⟨rfl, B6.out⟩
theorem built_o2 (k t v : Int) : Try.prog.built 29 [(0, .int .i64 k), (1, .int .i64 t), (2, .int .i64 v)] = some (Rc.cells ⟨k, t, v, ⟨0, 0, 0, none, 0, 0⟩, 0, 0, none, 0, 0⟩).toArray := by kernel_rfl
set_option maxRecDepth 100000 in
set_option maxHeartbeats 8000000 in
theorem uonly2 (t v ix tm kd i f : Int) (a sa : Option Addr) (n c sn sc : Nat) (w : World) : Calls Try.prog 98 #[.agg (Rc.cells ⟨2, t, v, ⟨ix, tm, kd, a, n, c⟩, i, f, sa, sn, sc⟩).toArray] w fun x w' => x = .returned (.agg (Rc.cells (⟨2, t, v, ⟨0, 0, 0, none, 0, 0⟩, 0, 0, none, 0, 0⟩)).toArray) ∧ Below w.heap.size w w' := by
  have RZ := Lib.hid rc_zero
  have RS := Lib.hid rc_size
  unfold Rc.cells
  dsimp only
  go_enter Try.func98, Try.ntmps98
  go_wp2_with (first
    | (with_reducible refine box_row (o := ⟨some 1, _, _, _, _, _⟩) rfl _ _ rfl [.int .i64 2, .int .i64 t, .int .i64 v, .int .i64 ix, .int .i64 tm, .int .i64 kd, .slice a n c, .int .i64 i, .int .i64 f, .slice sa sn sc] rfl ?_; intro w1 hr1 hb1 hz1; have HR1 := Lib.hid hr1; have L1 := Lib.hid hr1.lt; have B1 := Lib.hid hb1; clear hr1 hb1 hz1)
    | ((with_reducible refine alloc_row (o := ⟨some 2, _, _, _, _, _⟩) rfl _ rfl _ RZ.out ?_); intro w2 hr2 hb2 hz2; have HR2 := Lib.hid hr2; obtain ⟨c0, c1, c2, c3, c4, c5, c6, c7, c8, c9⟩ := (HR1.out.below hb2 HR1.out.lt).q10; have HR1 := Lib.hid (HR1.out.below hb2 HR1.out.lt); have B2 := Lib.hid (B1.out.trans (hb2.mono B1.out.size)); clear hr2 hb2 hz2)
    | ((with_reducible refine build_row (o := ⟨some 26, _, _, _, _, _⟩) rfl _ _ rfl (Rc.cells (⟨2, t, v, ⟨0, 0, 0, none, 0, 0⟩, 0, 0, none, 0, 0⟩)) ?_ ?_); (focus (go_simp; exact built_o2 _ _ _)))
    | ((with_reducible refine load_cells (o := ⟨some 32, _, _, _, _, _⟩) rfl _ _ rfl w.heap.size 3 ?_ [.int .i64 ix, .int .i64 tm, .int .i64 kd, .slice a n c] _ (HR1.out.ent (r := ⟨2, t, v, ⟨ix, tm, kd, a, n, c⟩, i, f, sa, sn, sc⟩)) Try.underlying27 rfl ?_ ?_); (focus go_simp); (focus (exact en_size)))
    | ((with_reducible refine store_row (o := ⟨none, _, _, _, _, _⟩) rfl _ (.tmp 2) _ rfl w1.heap.size (Rc.cells (⟨2, t, v, ⟨0, 0, 0, none, 0, 0⟩, 0, 0, none, 0, 0⟩)) ?_ ?_ 29 _ HR2.out ?_ ?_ ?_ ?_); (focus go_simp); (focus (first | (go_simp; done) | (go_simp; rfl))); (focus (exact RS.out)); (focus rfl); (focus (exact rc_one _)); intro w6 hr6 hu6; have R6 := Lib.hid hr6; have B6 := Lib.hid (B2.out.trans (hu6.below B1.out.size)); clear hr6 hu6))
  exact bodyPost_ret (results_cell_row rfl _ _ w1.heap.size 29 _ _ _ (by go_simp) R6.out Try.underlying29 rfl RS.out) rfl ⟨rfl, B6.out⟩
theorem built_o3 (k ix tm kd : Int) (a : Option Addr) (n c : Nat) : Try.prog.built 29 [(0, .int .i64 k), (3, .agg #[.int .i64 ix, .int .i64 tm, .int .i64 kd, .slice a n c])] = some (Rc.cells ⟨k, 0, 0, ⟨ix, tm, kd, a, n, c⟩, 0, 0, none, 0, 0⟩).toArray := by kernel_rfl
set_option maxRecDepth 100000 in
set_option maxHeartbeats 8000000 in
theorem uonly3 (t v ix tm kd i f : Int) (a sa : Option Addr) (n c sn sc : Nat) (w : World) : Calls Try.prog 98 #[.agg (Rc.cells ⟨3, t, v, ⟨ix, tm, kd, a, n, c⟩, i, f, sa, sn, sc⟩).toArray] w fun x w' => x = .returned (.agg (Rc.cells (⟨3, 0, 0, ⟨ix, tm, kd, a, n, c⟩, 0, 0, none, 0, 0⟩)).toArray) ∧ Below w.heap.size w w' := by
  have RZ := Lib.hid rc_zero
  have RS := Lib.hid rc_size
  unfold Rc.cells
  dsimp only
  go_enter Try.func98, Try.ntmps98
  go_wp2_with (first
    | (with_reducible refine box_row (o := ⟨some 1, _, _, _, _, _⟩) rfl _ _ rfl [.int .i64 3, .int .i64 t, .int .i64 v, .int .i64 ix, .int .i64 tm, .int .i64 kd, .slice a n c, .int .i64 i, .int .i64 f, .slice sa sn sc] rfl ?_; intro w1 hr1 hb1 hz1; have HR1 := Lib.hid hr1; have L1 := Lib.hid hr1.lt; have B1 := Lib.hid hb1; clear hr1 hb1 hz1)
    | ((with_reducible refine alloc_row (o := ⟨some 2, _, _, _, _, _⟩) rfl _ rfl _ RZ.out ?_); intro w2 hr2 hb2 hz2; have HR2 := Lib.hid hr2; obtain ⟨c0, c1, c2, c3, c4, c5, c6, c7, c8, c9⟩ := (HR1.out.below hb2 HR1.out.lt).q10; have HR1 := Lib.hid (HR1.out.below hb2 HR1.out.lt); have B2 := Lib.hid (B1.out.trans (hb2.mono B1.out.size)); clear hr2 hb2 hz2)
    | ((with_reducible refine build_row (o := ⟨some 33, _, _, _, _, _⟩) rfl _ _ rfl (Rc.cells (⟨3, 0, 0, ⟨ix, tm, kd, a, n, c⟩, 0, 0, none, 0, 0⟩)) ?_ ?_); (focus (go_simp; exact built_o3 _ _ _ _ _ _ _)))
    | ((with_reducible refine load_cells (o := ⟨some 32, _, _, _, _, _⟩) rfl _ _ rfl w.heap.size 3 ?_ [.int .i64 ix, .int .i64 tm, .int .i64 kd, .slice a n c] _ (HR1.out.ent (r := ⟨3, t, v, ⟨ix, tm, kd, a, n, c⟩, i, f, sa, sn, sc⟩)) Try.underlying27 rfl ?_ ?_); (focus go_simp); (focus (exact en_size)))
    | ((with_reducible refine store_row (o := ⟨none, _, _, _, _, _⟩) rfl _ (.tmp 2) _ rfl w1.heap.size (Rc.cells (⟨3, 0, 0, ⟨ix, tm, kd, a, n, c⟩, 0, 0, none, 0, 0⟩)) ?_ ?_ 29 _ HR2.out ?_ ?_ ?_ ?_); (focus go_simp); (focus (first | (go_simp; done) | (go_simp; rfl))); (focus (exact RS.out)); (focus rfl); (focus (exact rc_one _)); intro w6 hr6 hu6; have R6 := Lib.hid hr6; have B6 := Lib.hid (B2.out.trans (hu6.below B1.out.size)); clear hr6 hu6))
  exact bodyPost_ret (results_cell_row rfl _ _ w1.heap.size 29 _ _ _ (by go_simp) R6.out Try.underlying29 rfl RS.out) rfl ⟨rfl, B6.out⟩
theorem built_ok (k i : Int) : Try.prog.built 29 [(0, .int .i64 k), (4, .int .i64 i)] = some (Rc.cells ⟨k, 0, 0, ⟨0, 0, 0, none, 0, 0⟩, i, 0, none, 0, 0⟩).toArray := by kernel_rfl
set_option maxRecDepth 100000 in
set_option maxHeartbeats 8000000 in
theorem uonlyk (k : Int) (k1 : (k == 1) = false) (k2 : (k == 2) = false) (k3 : (k == 3) = false) (t v ix tm kd i f : Int) (a sa : Option Addr) (n c sn sc : Nat) (w : World) : Calls Try.prog 98 #[.agg (Rc.cells ⟨k, t, v, ⟨ix, tm, kd, a, n, c⟩, i, f, sa, sn, sc⟩).toArray] w fun x w' => x = .returned (.agg (Rc.cells (⟨k, 0, 0, ⟨0, 0, 0, none, 0, 0⟩, i, 0, none, 0, 0⟩)).toArray) ∧ Below w.heap.size w w' := by
  have RZ := Lib.hid rc_zero
  have RS := Lib.hid rc_size
  unfold Rc.cells
  dsimp only
  go_enter Try.func98, Try.ntmps98
  go_wp2_with (first
    | (with_reducible refine box_row (o := ⟨some 1, _, _, _, _, _⟩) rfl _ _ rfl [.int .i64 k, .int .i64 t, .int .i64 v, .int .i64 ix, .int .i64 tm, .int .i64 kd, .slice a n c, .int .i64 i, .int .i64 f, .slice sa sn sc] rfl ?_; intro w1 hr1 hb1 hz1; have HR1 := Lib.hid hr1; have L1 := Lib.hid hr1.lt; have B1 := Lib.hid hb1; clear hr1 hb1 hz1)
    | ((with_reducible refine alloc_row (o := ⟨some 2, _, _, _, _, _⟩) rfl _ rfl _ RZ.out ?_); intro w2 hr2 hb2 hz2; have HR2 := Lib.hid hr2; obtain ⟨c0, c1, c2, c3, c4, c5, c6, c7, c8, c9⟩ := (HR1.out.below hb2 HR1.out.lt).q10; have HR1 := Lib.hid (HR1.out.below hb2 HR1.out.lt); have B2 := Lib.hid (B1.out.trans (hb2.mono B1.out.size)); clear hr2 hb2 hz2)
    | ((with_reducible refine build_row (o := ⟨some 38, _, _, _, _, _⟩) rfl _ _ rfl (Rc.cells (⟨k, 0, 0, ⟨0, 0, 0, none, 0, 0⟩, i, 0, none, 0, 0⟩)) ?_ ?_); (focus (go_simp; exact built_ok _ _)))
    | ((with_reducible refine load_cells (o := ⟨some 32, _, _, _, _, _⟩) rfl _ _ rfl w.heap.size 3 ?_ [.int .i64 ix, .int .i64 tm, .int .i64 kd, .slice a n c] _ (HR1.out.ent (r := ⟨k, t, v, ⟨ix, tm, kd, a, n, c⟩, i, f, sa, sn, sc⟩)) Try.underlying27 rfl ?_ ?_); (focus go_simp); (focus (exact en_size)))
    | ((with_reducible refine store_row (o := ⟨none, _, _, _, _, _⟩) rfl _ (.tmp 2) _ rfl w1.heap.size (Rc.cells (⟨k, 0, 0, ⟨0, 0, 0, none, 0, 0⟩, i, 0, none, 0, 0⟩)) ?_ ?_ 29 _ HR2.out ?_ ?_ ?_ ?_); (focus go_simp); (focus (first | (go_simp; done) | (go_simp; rfl))); (focus (exact RS.out)); (focus rfl); (focus (exact rc_one _)); intro w6 hr6 hu6; have R6 := Lib.hid hr6; have B6 := Lib.hid (B2.out.trans (hu6.below B1.out.size)); clear hr6 hu6))
  exact bodyPost_ret (results_cell_row rfl _ _ w1.heap.size 29 _ _ _ (by go_simp) R6.out Try.underlying29 rfl RS.out) rfl ⟨rfl, B6.out⟩
theorem uonly (r : Rc) (w : World) : Calls Try.prog 98 #[.agg r.cells.toArray] w fun x w' => x = .returned (.agg r.only.cells.toArray) ∧ Below w.heap.size w w' := by
  obtain ⟨k, t, v, ⟨ix, tm, kd, a, n, c⟩, i, f, sa, sn, sc⟩ := r
  by_cases h1 : k = 1
  · subst h1; exact uonly1 t v ix tm kd i f a sa n c sn sc w
  by_cases h2 : k = 2
  · subst h2; exact uonly2 t v ix tm kd i f a sa n c sn sc w
  by_cases h3 : k = 3
  · subst h3; exact uonly3 t v ix tm kd i f a sa n c sn sc w
  · have h := uonlyk k (by simpa using h1) (by simpa using h2) (by simpa using h3) t v ix tm kd i f a sa n c sn sc w
    have e : Rc.only ⟨k, t, v, ⟨ix, tm, kd, a, n, c⟩, i, f, sa, sn, sc⟩ = ⟨k, 0, 0, ⟨0, 0, 0, none, 0, 0⟩, i, 0, none, 0, 0⟩ := by
      unfold Rc.only; dsimp only; rw [if_neg h1, if_neg h2, if_neg h3]
    rw [e]; exact h
end Go.Proofs.Ytbcaphkbjeejhaa.W
