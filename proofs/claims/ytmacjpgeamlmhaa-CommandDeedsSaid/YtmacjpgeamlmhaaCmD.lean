/- LAYER 23 (command): Reads, Action, bytesOf, Deed of both. -/
import Derived.Test.YtmacjpgeamlmhaaCmW
import Derived.Test.YtmacjpgeamlmhaaMfUb
import Derived.Test.YtmacjpgeamlmhaaSt
import Derived.Test.YtmacjpgeamlmhaaRun
set_option linter.unusedSimpArgs false
set_option linter.unusedVariables false
namespace Go.Proofs.Ytmacjpgeamlmhaa.W
open Go Go.ChangeShapes Go.WideShapes Go.ChangeAt Go.RowKit
open Go.Proofs.Ytmacjpgeamlmhaa.P (enc dec)
open Go.Proofs.Ytmacjpgeamlmhaa.S

/-- a call and an operation that may come up in either order, in a region that ends with a store -/
theorem t_ct {P : Program} {ops : Array Oper} {Q : Exit → Act → World → Prop} {S : World → Prop} {t : Nat} {a : Act} {w : World} {fuel : Nat} {listed : Array Bool}
    (j i : Nat) {o' o : Oper} (hj : ops[j]? = some o') (hi : ops[i]? = some o) (hr : Region.ready .any ops listed = [j, i]) (hjt : (j == t) = false) (hit : (i == t) = false)
    (hw : Region.wanted o' (yielded ops a.tmps) = true) (f : FuncId) (args : Array Value) (hrun : (execOp a.eval o').run P w = .ok (.enter f args) w)
    (hc : Calls P f args w fun e w' => ∃ v, e = .returned v ∧ S w' ∧ WT P ops Q S t fuel (listed.setIfInBounds j true) (a.put o'.dst v) w')
    (h : ∀ K : Exit → Act → World → Prop, (∀ a' w', S w' → WT P ops Q S t fuel (listed.setIfInBounds i true) a' w' → K .normal a' w') → wpList P ops K [o] a w) : WT P ops Q S t (fuel + 1) listed a w :=
  ⟨fun hQ hs hS ht => by
    have hne : i ≠ t := by simpa using hit
    have hnj : j ≠ t := by simpa using hjt
    refine ⟨fun h0 => (by rw [hr] at h0; cases h0), ?_⟩
    rw [hr]
    intro k hk
    have hk' : k = i ∨ k = j := by have := (show k = j ∨ k = i by simpa using hk); exact this.symm
    rcases hk' with rfl | rfl
    · exact wpOp_of_list hi (h _ fun a' w' h1 h2 => ⟨rfl, fun _ => h1, h2.out hQ hs h1 (by rw [getD_set_ne true hne]; exact ht)⟩)
    · unfold wpOp
      simp only [hj, hw, if_true]
      refine .inl ?_
      unfold Oper.wp
      rw [hrun, Oper.upon_enter]
      refine hc.mono ?_
      rintro e w' ⟨v, rfl, h1, h2⟩
      exact ⟨fun _ => h1, h2.out hQ hs h1 (by rw [getD_set_ne true hnj]; exact ht)⟩⟩
def rdsC (k : Int) : Bool := in64 k 12 14
set_option maxHeartbeats 4000000 in
theorem zkaction (k : Int) (w : World) : Calls Try.prog 23 #[.int .i64 k] w fun e w' => e = .returned (.int .i64 (actC k)) ∧ w = w' := by
  go_enter Try.func23, Try.ntmps23
  go_wp2
  all_goals
    go_ret
    exact ⟨one (vint (by unfold actC; simp_all; try omega)), rfl⟩
theorem cmreads (k : Int) (w : World) : Calls Try.prog 20 #[.int .i64 k] w fun e w' => e = .returned (.bool (rdsC k)) ∧ w = w' := by
  go_enter Try.func20, Try.ntmps20
  go_wp2
  all_goals
    go_ret
    exact ⟨one (vbool (by unfold rdsC; symm; (try simp only [beq_iff_eq, beq_eq_false_iff_ne] at *); first | (rw [in64_iff]; omega) | (rw [Bool.eq_false_iff, Ne, in64_iff]; omega))), rfl⟩
theorem zkreads (k : Int) (w : World) : Calls Try.prog 21 #[.int .i64 k] w fun e w' => e = .returned (.bool (rdsC k)) ∧ w = w' := by
  by_cases h1 : 12 ≤ k
  · by_cases h2 : k ≤ 14
    · have HX := Lib.hid (show rdsC k = true by unfold rdsC; rw [in64_iff]; omega)
      go_enter Try.func21, Try.ntmps21
      go_wp2
      go_ret
      exact ⟨one (vbool (by rw [HX.out])), rfl⟩
    · have HX := Lib.hid (show rdsC k = false by unfold rdsC; rw [Bool.eq_false_iff, Ne, in64_iff]; omega)
      go_enter Try.func21, Try.ntmps21
      go_wp2
      go_ret
      exact ⟨one (vbool (by rw [HX.out])), rfl⟩
  · have HX := Lib.hid (show rdsC k = false by unfold rdsC; rw [Bool.eq_false_iff, Ne, in64_iff]; omega)
    go_enter Try.func21, Try.ntmps21
    go_wp2
    go_ret
    exact ⟨one (vbool (by rw [HX.out])), rfl⟩
-- ---- Deed
def bytC (m : Cm) : Int := if m.kd = 2 then m.by' else if m.kd = 4 then (bytesM m.P).1 else 0
def deedC (m : Cm) (time : Int) : Dd := ⟨actC m.kd, time, m.cl, bytC m, m.sp, m.nm⟩
@[reducible] def ddC (a t c b : Int) (s n : ByteArray) : List Value := [.int .i64 a, .int .i64 t, .int .i64 c, .int .i64 b, .string s, .string n]
theorem dd_built (a t c b : Int) (s n : ByteArray) : Try.prog.built 40 [(0, .int .i64 a), (1, .int .i64 t), (2, .int .i64 c), (3, .int .i64 b), (4, .string s), (5, .string n)] = some (ddC a t c b s n).toArray := by kernel_rfl
theorem dd_built5 (a t c : Int) (s n : ByteArray) : Try.prog.built 40 [(0, .int .i64 a), (1, .int .i64 t), (2, .int .i64 c), (4, .string s), (5, .string n)] = some (ddC a t c 0 s n).toArray := by kernel_rfl
theorem dd_zero : (Try.prog.info? 40).map (·.zero) = some (some (.agg (ddC 0 0 0 0 ⟨#[]⟩ ⟨#[]⟩).toArray)) := by kernel_rfl
theorem dd_size' : (Try.prog.info? 40).map (·.size) = some 6 := by kernel_rfl
theorem dd_one (a t c b : Int) (s n : ByteArray) : ∀ v ∈ ddC a t c b s n, v.oneCell' = true := by
  intro v hv; simp at hv; rcases hv with rfl | rfl | rfl | rfl | rfl | rfl <;> rfl
set_option maxRecDepth 100000 in
set_option maxHeartbeats 16000000 in
theorem cmbytes (x : CmX) (w : World) (h : x.fit w) : Calls Try.prog 62 #[.agg x.cells.toArray] w fun e w' => e = .returned (.int .i64 (bytC x.m)) ∧ Below w.heap.size w w' := by
  obtain ⟨⟨cl, sq, kd, id, ep, V, sp, nm, nu, by1, ti, PL⟩, va, vn, vc, pa, pn, pc⟩ := x
  have hP := h.P
  dsimp only at hP ⊢
  have HB := Lib.hid (fun w' (hb : Below w.heap.size w w') => pbytes pa pn pc PL w' (hP.mono pcOk hb))
  obtain ⟨nb, eb, hbe⟩ : ∃ b e, bytesM PL = (b, e) := ⟨_, _, rfl⟩
  rw [hbe] at HB
  dsimp only at HB
  obtain ⟨B, hB⟩ : ∃ b, bytC ⟨cl, sq, kd, id, ep, V, sp, nm, nu, by1, ti, PL⟩ = b := ⟨_, rfl⟩
  rw [hB]
  have HX := Lib.hid (show (if kd = 2 then by1 else if kd = 4 then nb else 0) = B by rw [← hB]; unfold bytC; dsimp only; rw [hbe])
  clear h hP hbe hB
  by_cases k2 : kd = 2
  · subst k2
    have HY := Lib.hid (show B = by1 by rw [← HX.out, if_pos rfl])
    go_enter Try.func62, Try.ntmps62
    go_wp2_with ((with_reducible refine box_row (o := ⟨some 1, _, _, _, _, _⟩) rfl _ _ rfl (cmC cl sq 2 id ep va vn vc sp nm nu by1 ti pa pn pc) rfl ?_); intro w1 hr hb hz; have B1 := Lib.hid hb; have c2 := hr.cm'.c2; have c9 := hr.cm'.c9; clear hr hb hz)
    go_ret
    exact ⟨one (vint (by rw [HY.out])), B1.out⟩
  · by_cases k4 : kd = 4
    · subst k4
      have HY := Lib.hid (show B = nb by rw [← HX.out, if_neg (by decide), if_pos rfl])
      go_enter Try.func62, Try.ntmps62
      go_wp2_with (first
        | ((with_reducible refine box_row (o := ⟨some 1, _, _, _, _, _⟩) rfl _ _ rfl (cmC cl sq 4 id ep va vn vc sp nm nu by1 ti pa pn pc) rfl ?_); intro w1 hr hb hz; have B1 := Lib.hid hb; have c2 := hr.cm'.c2; have c11 := hr.cm'.c11; clear hr hb hz)
        | (go_at_call 78; (with_reducible refine (HB.out _ B1.out).mono ?_); rintro z w2 ⟨rfl, hb⟩; have B2 := Lib.hid (B1.out.trans (hb.mono B1.out.size)); clear hb))
      go_ret
      exact ⟨one (vint (by rw [HY.out])), B2.out⟩
    · have HY := Lib.hid (show B = 0 by rw [← HX.out, if_neg k2, if_neg k4])
      have q2 : (kd == 2) = false := by simpa using k2
      have q4 : (kd == 4) = false := by simpa using k4
      go_enter Try.func62, Try.ntmps62
      go_wp2_with ((with_reducible refine box_row (o := ⟨some 1, _, _, _, _, _⟩) rfl _ _ rfl (cmC cl sq kd id ep va vn vc sp nm nu by1 ti pa pn pc) rfl ?_); intro w1 hr hb hz; have B1 := Lib.hid hb; have c2 := hr.cm'.c2; clear hr hb hz)
      go_ret
      exact ⟨one (vint (by rw [HY.out])), B1.out⟩
set_option maxRecDepth 100000 in
set_option maxHeartbeats 16000000 in
theorem cmdeed (x : CmX) (time : Int) (w : World) (h : x.fit w) : Calls Try.prog 18 #[.agg x.cells.toArray, .int .i64 time] w fun e w' => e = .returned (deedC x.m time).val ∧ Below w.heap.size w w' := by
  obtain ⟨⟨cl, sq, kd, id, ep, V, sp, nm, nu, by1, ti, PL⟩, va, vn, vc, pa, pn, pc⟩ := x
  have HA := Lib.hid (fun w => cmaction kd w)
  have DZ := Lib.hid dd_zero
  have DZS := Lib.hid dd_size'
  have HB := Lib.hid (fun w' (hb : Below w.heap.size w w') => cmbytes ⟨⟨cl, sq, kd, id, ep, V, sp, nm, nu, by1, ti, PL⟩, va, vn, vc, pa, pn, pc⟩ w' (h.mono hb))
  unfold deedC
  dsimp only at HB ⊢
  obtain ⟨ac, hac⟩ : ∃ a, actC kd = a := ⟨_, rfl⟩
  obtain ⟨bt, hbt⟩ : ∃ a, bytC ⟨cl, sq, kd, id, ep, V, sp, nm, nu, by1, ti, PL⟩ = a := ⟨_, rfl⟩
  rw [hac] at HA ⊢
  rw [hbt] at HB ⊢
  clear h hac hbt
  go_enter Try.func18, Try.ntmps18
  go_wp2_with (first
    | ((with_reducible refine box_row (o := ⟨some 2, _, _, _, _, _⟩) rfl _ _ rfl (cmC cl sq kd id ep va vn vc sp nm nu by1 ti pa pn pc) rfl ?_); intro w1 hr hb hz; have X1 := Lib.hid hr; have B1 := Lib.hid hb; clear hr hb hz)
    | ((with_reducible refine alloc_row (o := ⟨some 4, _, _, _, _, _⟩) rfl _ rfl _ DZ.out ?_); intro w2 hr hb hz; have E2 := Lib.hid hr; have X2 := Lib.hid (X1.out.below hb X1.out.lt); have B2 := Lib.hid (B1.out.trans (hb.mono B1.out.size)); clear hr hb hz))
  obtain ⟨C0, -, C2, -, -, -, C6, C7, -, C9, -, C11⟩ := X2.out.cm'
  have C0 := Lib.hid C0
  have C2 := Lib.hid C2
  have C6 := Lib.hid C6
  have C7 := Lib.hid C7
  have C9 := Lib.hid C9
  have C11 := Lib.hid C11
  refine region_t (fun v => Below w2.heap.size w2 v) 13 (by kernel_rfl) (by kernel_rfl) (by kernel_rfl) (Below.refl _ _).drew ?_
  obtain ⟨d0, hd0⟩ : ∃ wd, w2.drew = wd := ⟨_, rfl⟩
  have J0 : Hid (Below w2.heap.size w2 d0) := Lib.hid (by rw [← hd0]; exact (Below.refl _ _).drew)
  rw [hd0]
  clear hd0
  (refine t_read 0 rfl (by kernel_rfl) (by kernel_rfl) (by kernel_rfl) (t_free rfl) ?_ ?_ ?_; rotate_left; (focus (intro v hv; go_simp; rfl)); go_simp)
  (refine t_read 1 rfl (by kernel_rfl) (by kernel_rfl) (by kernel_rfl) (t_free rfl) ?_ ?_ ?_; rotate_left; (focus (intro v hv; have x0 := (hv.cell (p := ⟨w.heap.size, 0, none⟩) X2.out.lt).trans C0.out; have x2 := (hv.cell (p := ⟨w.heap.size, 2, none⟩) X2.out.lt).trans C2.out; have x6 := (hv.cell (p := ⟨w.heap.size, 6, none⟩) X2.out.lt).trans C6.out; have x7 := (hv.cell (p := ⟨w.heap.size, 7, none⟩) X2.out.lt).trans C7.out; have x9 := (hv.cell (p := ⟨w.heap.size, 9, none⟩) X2.out.lt).trans C9.out; have x11 := (hv.cell (p := ⟨w.heap.size, 11, none⟩) X2.out.lt).trans C11.out; go_simp; rfl)); go_simp)
  (refine t_read 3 rfl (by kernel_rfl) (by kernel_rfl) (by kernel_rfl) (t_free rfl) ?_ ?_ ?_; rotate_left; (focus (intro v hv; go_simp; rfl)); go_simp)
  (refine t_read 4 rfl (by kernel_rfl) (by kernel_rfl) (by kernel_rfl) (t_free rfl) ?_ ?_ ?_; rotate_left; (focus (intro v hv; go_simp; rfl)); go_simp)
  (refine t_read 5 rfl (by kernel_rfl) (by kernel_rfl) (by kernel_rfl) (t_free rfl) ?_ ?_ ?_; rotate_left; (focus (intro v hv; have x0 := (hv.cell (p := ⟨w.heap.size, 0, none⟩) X2.out.lt).trans C0.out; have x2 := (hv.cell (p := ⟨w.heap.size, 2, none⟩) X2.out.lt).trans C2.out; have x6 := (hv.cell (p := ⟨w.heap.size, 6, none⟩) X2.out.lt).trans C6.out; have x7 := (hv.cell (p := ⟨w.heap.size, 7, none⟩) X2.out.lt).trans C7.out; have x9 := (hv.cell (p := ⟨w.heap.size, 9, none⟩) X2.out.lt).trans C9.out; have x11 := (hv.cell (p := ⟨w.heap.size, 11, none⟩) X2.out.lt).trans C11.out; go_simp; rfl)); go_simp)
  (refine t_read 6 rfl (by kernel_rfl) (by kernel_rfl) (by kernel_rfl) (t_free rfl) ?_ ?_ ?_; rotate_left; (focus (intro v hv; refine run_cells 25 (.tmp 2) ?_ w.heap.size 0 ?_ (cmC cl sq kd id ep va vn vc sp nm nu by1 ti pa pn pc) _ (fun j' u' hj => by rw [hv.cell (p := ⟨w.heap.size, 0 + j', none⟩) X2.out.lt, Nat.zero_add, X2.out.cellV]; exact hj) Try.underlying25 rfl cm_size; (focus rfl); go_simp)); go_simp)
  (refine t_read 8 rfl (by kernel_rfl) (by kernel_rfl) (by kernel_rfl) (t_free rfl) ?_ ?_ ?_; rotate_left; (focus (intro v hv; go_simp; rfl)); go_simp)
  (refine t_read 9 rfl (by kernel_rfl) (by kernel_rfl) (by kernel_rfl) (t_free rfl) ?_ ?_ ?_; rotate_left; (focus (intro v hv; have x0 := (hv.cell (p := ⟨w.heap.size, 0, none⟩) X2.out.lt).trans C0.out; have x2 := (hv.cell (p := ⟨w.heap.size, 2, none⟩) X2.out.lt).trans C2.out; have x6 := (hv.cell (p := ⟨w.heap.size, 6, none⟩) X2.out.lt).trans C6.out; have x7 := (hv.cell (p := ⟨w.heap.size, 7, none⟩) X2.out.lt).trans C7.out; have x9 := (hv.cell (p := ⟨w.heap.size, 9, none⟩) X2.out.lt).trans C9.out; have x11 := (hv.cell (p := ⟨w.heap.size, 11, none⟩) X2.out.lt).trans C11.out; go_simp; rfl)); go_simp)
  (refine t_read 10 rfl (by kernel_rfl) (by kernel_rfl) (by kernel_rfl) (t_free rfl) ?_ ?_ ?_; rotate_left; (focus (intro v hv; go_simp; rfl)); go_simp)
  (refine t_read 11 rfl (by kernel_rfl) (by kernel_rfl) (by kernel_rfl) (t_free rfl) ?_ ?_ ?_; rotate_left; (focus (intro v hv; have x0 := (hv.cell (p := ⟨w.heap.size, 0, none⟩) X2.out.lt).trans C0.out; have x2 := (hv.cell (p := ⟨w.heap.size, 2, none⟩) X2.out.lt).trans C2.out; have x6 := (hv.cell (p := ⟨w.heap.size, 6, none⟩) X2.out.lt).trans C6.out; have x7 := (hv.cell (p := ⟨w.heap.size, 7, none⟩) X2.out.lt).trans C7.out; have x9 := (hv.cell (p := ⟨w.heap.size, 9, none⟩) X2.out.lt).trans C9.out; have x11 := (hv.cell (p := ⟨w.heap.size, 11, none⟩) X2.out.lt).trans C11.out; go_simp; rfl)); go_simp)
  (refine t_call 2 rfl (by kernel_rfl) rfl (t_free rfl) 22 ?_ ?_ ?_; rotate_left; (focus (go_simp; rfl)))
  refine (HA.out d0).mono ?_
  rintro z wz ⟨rfl, rfl⟩
  refine ⟨_, rfl, J0.out, ?_⟩
  go_simp
  (refine t_call 7 rfl (by kernel_rfl) rfl (t_free rfl) 62 ?_ ?_ ?_; rotate_left; (focus (go_simp; rfl)))
  refine (HB.out d0 (B2.out.trans (J0.out.mono B2.out.size))).mono ?_
  rintro z d1 ⟨rfl, hb⟩
  have J1 := Lib.hid (J0.out.trans (hb.mono J0.out.size))
  clear hb
  refine ⟨_, rfl, J1.out, ?_⟩
  go_simp
  have qb := dd_built ac time cl bt sp nm
  (refine t_read 12 rfl (by kernel_rfl) (by kernel_rfl) (by kernel_rfl) (t_free rfl) ?_ ?_ ?_; rotate_left; (focus (intro v hv; go_simp; rfl)); go_simp)
  (refine t_last 13 rfl (by kernel_rfl) rfl (by kernel_rfl) (by kernel_rfl) ?_; intro K hK)
  refine store_row rfl _ _ _ rfl w1.heap.size (ddC ac time cl bt sp nm) (by go_simp) (by first | (go_simp; done) | (go_simp; rfl)) 40 _ (E2.out.below J1.out E2.out.lt) DZS.out rfl (dd_one _ _ _ _ _ _) ?_
  intro w7 hr hu
  have R7 := Lib.hid hr
  have B7 := Lib.hid ((B2.out.trans (J1.out.mono B2.out.size)).trans (hu.below B1.out.size))
  clear hr hu
  refine hK _ _ ?_
  go_simp
  go_wp2_with fail
  exact bodyPost_ret (results_cell_row rfl _ _ w1.heap.size 40 _ _ _ (by go_simp) R7.out Try.underlying40 rfl DZS.out) rfl ⟨rfl, B7.out⟩
set_option maxRecDepth 100000 in
set_option maxHeartbeats 16000000 in
theorem zkdeed (x : CmX) (time : Int) (w : World) (h : x.fit w) : Calls Try.prog 19 #[.agg x.cells.toArray, .int .i64 time] w fun e w' => e = .returned (deedC x.m time).val ∧ Below w.heap.size w w' := by
  obtain ⟨⟨cl, sq, kd, id, ep, V, sp, nm, nu, by1, ti, PL⟩, va, vn, vc, pa, pn, pc⟩ := x
  have HA := Lib.hid (fun w => zkaction kd w)
  have DZ := Lib.hid dd_zero
  have DZS := Lib.hid dd_size'
  have hP := h.P
  dsimp only at hP
  have HB := Lib.hid (fun w' (hb : Below w.heap.size w w') => ubytes pa pn pc PL w' (hP.mono pcOk hb))
  unfold deedC
  dsimp only
  obtain ⟨ac, hac⟩ : ∃ a, actC kd = a := ⟨_, rfl⟩
  obtain ⟨bt, hbt⟩ : ∃ a, bytC ⟨cl, sq, kd, id, ep, V, sp, nm, nu, by1, ti, PL⟩ = a := ⟨_, rfl⟩
  have hb0 : (if kd = 2 then by1 else if kd = 4 then (bytesM PL).1 else 0) = bt := hbt
  rw [hac] at HA ⊢
  rw [hbt]
  clear h hP hac hbt
  by_cases k2 : kd = 2
  · subst k2
    rw [if_pos rfl] at hb0
    subst hb0
    clear HB
    go_enter Try.func19, Try.ntmps19
    go_wp2_with (first
      | ((with_reducible refine box_row (o := ⟨some 2, _, _, _, _, _⟩) rfl _ _ rfl (cmC cl sq 2 id ep va vn vc sp nm nu by1 ti pa pn pc) rfl ?_); intro w1 hr hb hz; have X1 := Lib.hid hr; have B1 := Lib.hid hb; clear hr hb hz)
      | ((with_reducible refine alloc_row (o := ⟨some 4, _, _, _, _, _⟩) rfl _ rfl _ DZ.out ?_); intro w2 hr hb hz; have E2 := Lib.hid hr; have X2 := Lib.hid (X1.out.below hb X1.out.lt); have B2 := Lib.hid (B1.out.trans (hb.mono B1.out.size)); clear hr hb hz))
    obtain ⟨C0, -, C2, -, -, -, C6, C7, -, C9, -, C11⟩ := X2.out.cm'
    have C0 := Lib.hid C0
    have C2 := Lib.hid C2
    have C6 := Lib.hid C6
    have C7 := Lib.hid C7
    have C9 := Lib.hid C9
    have C11 := Lib.hid C11
    refine region_t (fun v => Below w2.heap.size w2 v) 12 (by kernel_rfl) (by kernel_rfl) (by kernel_rfl) (Below.refl _ _).drew ?_
    obtain ⟨d0, hd0⟩ : ∃ wd, w2.drew = wd := ⟨_, rfl⟩
    have J0 : Hid (Below w2.heap.size w2 d0) := Lib.hid (by rw [← hd0]; exact (Below.refl _ _).drew)
    rw [hd0]
    clear hd0
    (refine t_read 0 rfl (by kernel_rfl) (by kernel_rfl) (by kernel_rfl) (t_free rfl) ?_ ?_ ?_; rotate_left; (focus (intro v hv; go_simp; rfl)); go_simp)
    (refine t_read 1 rfl (by kernel_rfl) (by kernel_rfl) (by kernel_rfl) (t_free rfl) ?_ ?_ ?_; rotate_left; (focus (intro v hv; have x0 := (hv.cell (p := ⟨w.heap.size, 0, none⟩) X2.out.lt).trans C0.out; have x2 := (hv.cell (p := ⟨w.heap.size, 2, none⟩) X2.out.lt).trans C2.out; have x6 := (hv.cell (p := ⟨w.heap.size, 6, none⟩) X2.out.lt).trans C6.out; have x7 := (hv.cell (p := ⟨w.heap.size, 7, none⟩) X2.out.lt).trans C7.out; have x9 := (hv.cell (p := ⟨w.heap.size, 9, none⟩) X2.out.lt).trans C9.out; have x11 := (hv.cell (p := ⟨w.heap.size, 11, none⟩) X2.out.lt).trans C11.out; go_simp; rfl)); go_simp)
    (refine t_read 3 rfl (by kernel_rfl) (by kernel_rfl) (by kernel_rfl) (t_free rfl) ?_ ?_ ?_; rotate_left; (focus (intro v hv; go_simp; rfl)); go_simp)
    (refine t_read 4 rfl (by kernel_rfl) (by kernel_rfl) (by kernel_rfl) (t_free rfl) ?_ ?_ ?_; rotate_left; (focus (intro v hv; go_simp; rfl)); go_simp)
    (refine t_read 5 rfl (by kernel_rfl) (by kernel_rfl) (by kernel_rfl) (t_free rfl) ?_ ?_ ?_; rotate_left; (focus (intro v hv; have x0 := (hv.cell (p := ⟨w.heap.size, 0, none⟩) X2.out.lt).trans C0.out; have x2 := (hv.cell (p := ⟨w.heap.size, 2, none⟩) X2.out.lt).trans C2.out; have x6 := (hv.cell (p := ⟨w.heap.size, 6, none⟩) X2.out.lt).trans C6.out; have x7 := (hv.cell (p := ⟨w.heap.size, 7, none⟩) X2.out.lt).trans C7.out; have x9 := (hv.cell (p := ⟨w.heap.size, 9, none⟩) X2.out.lt).trans C9.out; have x11 := (hv.cell (p := ⟨w.heap.size, 11, none⟩) X2.out.lt).trans C11.out; go_simp; rfl)); go_simp)
    (refine t_read 6 rfl (by kernel_rfl) (by kernel_rfl) (by kernel_rfl) (t_free rfl) ?_ ?_ ?_; rotate_left; (focus (intro v hv; go_simp; rfl)); go_simp)
    (refine t_read 7 rfl (by kernel_rfl) (by kernel_rfl) (by kernel_rfl) (t_free rfl) ?_ ?_ ?_; rotate_left; (focus (intro v hv; have x0 := (hv.cell (p := ⟨w.heap.size, 0, none⟩) X2.out.lt).trans C0.out; have x2 := (hv.cell (p := ⟨w.heap.size, 2, none⟩) X2.out.lt).trans C2.out; have x6 := (hv.cell (p := ⟨w.heap.size, 6, none⟩) X2.out.lt).trans C6.out; have x7 := (hv.cell (p := ⟨w.heap.size, 7, none⟩) X2.out.lt).trans C7.out; have x9 := (hv.cell (p := ⟨w.heap.size, 9, none⟩) X2.out.lt).trans C9.out; have x11 := (hv.cell (p := ⟨w.heap.size, 11, none⟩) X2.out.lt).trans C11.out; go_simp; rfl)); go_simp)
    (refine t_read 8 rfl (by kernel_rfl) (by kernel_rfl) (by kernel_rfl) (t_free rfl) ?_ ?_ ?_; rotate_left; (focus (intro v hv; go_simp; rfl)); go_simp)
    (refine t_read 9 rfl (by kernel_rfl) (by kernel_rfl) (by kernel_rfl) (t_free rfl) ?_ ?_ ?_; rotate_left; (focus (intro v hv; have x0 := (hv.cell (p := ⟨w.heap.size, 0, none⟩) X2.out.lt).trans C0.out; have x2 := (hv.cell (p := ⟨w.heap.size, 2, none⟩) X2.out.lt).trans C2.out; have x6 := (hv.cell (p := ⟨w.heap.size, 6, none⟩) X2.out.lt).trans C6.out; have x7 := (hv.cell (p := ⟨w.heap.size, 7, none⟩) X2.out.lt).trans C7.out; have x9 := (hv.cell (p := ⟨w.heap.size, 9, none⟩) X2.out.lt).trans C9.out; have x11 := (hv.cell (p := ⟨w.heap.size, 11, none⟩) X2.out.lt).trans C11.out; go_simp; rfl)); go_simp)
    (refine t_ct 2 11 rfl rfl (by kernel_rfl) rfl rfl (t_free rfl) 23 ?_ ?_ ?_ ?_; rotate_left; (focus (go_simp; rfl)))
    · refine (HA.out d0).mono ?_
      rintro z wz ⟨rfl, rfl⟩
      refine ⟨_, rfl, J0.out, ?_⟩
      go_simp
      have qb := dd_built5 ac time cl sp nm
      (refine t_read 10 rfl (by kernel_rfl) (by kernel_rfl) (by kernel_rfl) (t_free rfl) ?_ ?_ ?_; rotate_left; (focus (intro v hv; go_simp; rfl)); go_simp)
      (refine t_list 11 rfl (by kernel_rfl) rfl ?_; intro K hK)
      refine alloc_row rfl _ rfl _ DZ.out ?_
      intro d1 hr hb hz
      obtain ⟨gd, hgd⟩ : ∃ g, d0.heap.size = g := ⟨_, rfl⟩
      rw [hgd] at hr
      have D1 := Lib.hid hr
      have GD := Lib.hid (show w1.heap.size ≠ gd by rw [← hgd]; exact Nat.ne_of_lt (Nat.lt_of_lt_of_le E2.out.lt J0.out.size))
      have GX := Lib.hid (show w.heap.size ≠ gd by rw [← hgd]; exact Nat.ne_of_lt (Nat.lt_of_lt_of_le X2.out.lt J0.out.size))
      have GB := Lib.hid (show w.heap.size ≤ gd by rw [← hgd]; exact Nat.le_trans B2.out.size J0.out.size)
      have J1 := Lib.hid (J0.out.trans (hb.mono J0.out.size))
      clear hr hb hz
      rw [hgd]
      clear hgd
      refine hK _ _ J1.out ?_
      go_simp
      (refine t_last 12 rfl (by kernel_rfl) rfl (by kernel_rfl) (by kernel_rfl) ?_; intro K hK)
      refine store_row rfl _ _ _ rfl gd (ddC ac time cl 0 sp nm) (by go_simp) (by first | (go_simp; done) | (go_simp; rfl)) 40 _ D1.out DZS.out rfl (dd_one _ _ _ _ _ _) ?_
      intro w7 hr hu
      have R7 := Lib.hid hr
      have E7 := Lib.hid ((E2.out.below J1.out E2.out.lt).upd hu GD.out)
      have X7 := Lib.hid ((X2.out.below J1.out X2.out.lt).upd hu GX.out)
      have B7 := Lib.hid ((B2.out.trans (J1.out.mono B2.out.size)).trans (hu.below GB.out))
      clear hr hu
      refine hK _ _ ?_
      go_simp
      have c2 := X7.out.cm'.c2
      have c9 := X7.out.cm'.c9
      go_wp2_with (first
        | ((with_reducible refine store_cell (o := ⟨none, _, _, _, _, _⟩) rfl _ (.tmp 22) _ rfl gd 3 (.int .i64 by1) ?_ ?_ rfl rfl 40 _ R7.out ?_ ?_ ?_); (focus go_simp); (focus (first | (go_simp; done) | (go_simp; rfl))); (focus (kernel_rfl)); (focus (show 3 < 6; decide)); intro w8 hr hu; have R8 := Lib.hid (show Row w8 gd 40 (ddC ac time cl by1 sp nm) from hr); have E8 := Lib.hid (E7.out.upd hu GD.out); have B8 := Lib.hid (B7.out.trans (hu.below GB.out)); have X8 := Lib.hid (X7.out.upd hu GX.out); have e2 := X8.out.cm'.c2; clear hr hu)
        | ((with_reducible refine load_row (o := ⟨some 33, _, _, _, _, _⟩) rfl _ _ rfl gd ?_ _ (ddC ac time cl by1 sp nm) _ R8.out Try.underlying40 rfl ?_ ?_); (focus go_simp); (focus (exact DZS.out)))
        | ((with_reducible refine store_row (o := ⟨none, _, _, _, _, _⟩) rfl _ (.tmp 4) _ rfl w1.heap.size (ddC ac time cl by1 sp nm) ?_ ?_ 40 _ E8.out ?_ ?_ ?_ ?_); (focus go_simp); (focus (first | (go_simp; done) | (go_simp; rfl))); (focus (exact DZS.out)); (focus rfl); (focus (exact dd_one _ _ _ _ _ _)); intro w9 hr hu; have R9 := Lib.hid hr; have B9 := Lib.hid (B8.out.trans (hu.below B1.out.size)); clear hr hu))
      exact bodyPost_ret (results_cell_row rfl _ _ w1.heap.size 40 _ _ _ (by go_simp) R9.out Try.underlying40 rfl DZS.out) rfl ⟨rfl, B9.out⟩
    · intro K hK
      refine alloc_row rfl _ rfl _ DZ.out ?_
      intro d1 hr hb hz
      obtain ⟨gd, hgd⟩ : ∃ g, d0.heap.size = g := ⟨_, rfl⟩
      rw [hgd] at hr
      have D1 := Lib.hid hr
      have GD := Lib.hid (show w1.heap.size ≠ gd by rw [← hgd]; exact Nat.ne_of_lt (Nat.lt_of_lt_of_le E2.out.lt J0.out.size))
      have GX := Lib.hid (show w.heap.size ≠ gd by rw [← hgd]; exact Nat.ne_of_lt (Nat.lt_of_lt_of_le X2.out.lt J0.out.size))
      have GB := Lib.hid (show w.heap.size ≤ gd by rw [← hgd]; exact Nat.le_trans B2.out.size J0.out.size)
      have J1 := Lib.hid (J0.out.trans (hb.mono J0.out.size))
      clear hr hb hz
      rw [hgd]
      clear hgd
      refine hK _ _ J1.out ?_
      go_simp
      (refine t_call 2 rfl (by kernel_rfl) rfl (t_free rfl) 23 ?_ ?_ ?_; rotate_left; (focus (go_simp; rfl)))
      refine (HA.out d1).mono ?_
      rintro z wz ⟨rfl, rfl⟩
      refine ⟨_, rfl, J1.out, ?_⟩
      go_simp
      have qb := dd_built5 ac time cl sp nm
      (refine t_read 10 rfl (by kernel_rfl) (by kernel_rfl) (by kernel_rfl) (t_free rfl) ?_ ?_ ?_; rotate_left; (focus (intro v hv; go_simp; rfl)); go_simp)
      (refine t_last 12 rfl (by kernel_rfl) rfl (by kernel_rfl) (by kernel_rfl) ?_; intro K hK)
      refine store_row rfl _ _ _ rfl gd (ddC ac time cl 0 sp nm) (by go_simp) (by first | (go_simp; done) | (go_simp; rfl)) 40 _ D1.out DZS.out rfl (dd_one _ _ _ _ _ _) ?_
      intro w7 hr hu
      have R7 := Lib.hid hr
      have E7 := Lib.hid ((E2.out.below J1.out E2.out.lt).upd hu GD.out)
      have X7 := Lib.hid ((X2.out.below J1.out X2.out.lt).upd hu GX.out)
      have B7 := Lib.hid ((B2.out.trans (J1.out.mono B2.out.size)).trans (hu.below GB.out))
      clear hr hu
      refine hK _ _ ?_
      go_simp
      have c2 := X7.out.cm'.c2
      have c9 := X7.out.cm'.c9
      go_wp2_with (first
        | ((with_reducible refine store_cell (o := ⟨none, _, _, _, _, _⟩) rfl _ (.tmp 22) _ rfl gd 3 (.int .i64 by1) ?_ ?_ rfl rfl 40 _ R7.out ?_ ?_ ?_); (focus go_simp); (focus (first | (go_simp; done) | (go_simp; rfl))); (focus (kernel_rfl)); (focus (show 3 < 6; decide)); intro w8 hr hu; have R8 := Lib.hid (show Row w8 gd 40 (ddC ac time cl by1 sp nm) from hr); have E8 := Lib.hid (E7.out.upd hu GD.out); have B8 := Lib.hid (B7.out.trans (hu.below GB.out)); have X8 := Lib.hid (X7.out.upd hu GX.out); have e2 := X8.out.cm'.c2; clear hr hu)
        | ((with_reducible refine load_row (o := ⟨some 33, _, _, _, _, _⟩) rfl _ _ rfl gd ?_ _ (ddC ac time cl by1 sp nm) _ R8.out Try.underlying40 rfl ?_ ?_); (focus go_simp); (focus (exact DZS.out)))
        | ((with_reducible refine store_row (o := ⟨none, _, _, _, _, _⟩) rfl _ (.tmp 4) _ rfl w1.heap.size (ddC ac time cl by1 sp nm) ?_ ?_ 40 _ E8.out ?_ ?_ ?_ ?_); (focus go_simp); (focus (first | (go_simp; done) | (go_simp; rfl))); (focus (exact DZS.out)); (focus rfl); (focus (exact dd_one _ _ _ _ _ _)); intro w9 hr hu; have R9 := Lib.hid hr; have B9 := Lib.hid (B8.out.trans (hu.below B1.out.size)); clear hr hu))
      exact bodyPost_ret (results_cell_row rfl _ _ w1.heap.size 40 _ _ _ (by go_simp) R9.out Try.underlying40 rfl DZS.out) rfl ⟨rfl, B9.out⟩
  · by_cases k4 : kd = 4
    · subst k4
      rw [if_neg (by decide), if_pos rfl] at hb0
      rw [hb0] at HB
      clear hb0
      go_enter Try.func19, Try.ntmps19
      go_wp2_with (first
        | ((with_reducible refine box_row (o := ⟨some 2, _, _, _, _, _⟩) rfl _ _ rfl (cmC cl sq 4 id ep va vn vc sp nm nu by1 ti pa pn pc) rfl ?_); intro w1 hr hb hz; have X1 := Lib.hid hr; have B1 := Lib.hid hb; clear hr hb hz)
        | ((with_reducible refine alloc_row (o := ⟨some 4, _, _, _, _, _⟩) rfl _ rfl _ DZ.out ?_); intro w2 hr hb hz; have E2 := Lib.hid hr; have X2 := Lib.hid (X1.out.below hb X1.out.lt); have B2 := Lib.hid (B1.out.trans (hb.mono B1.out.size)); clear hr hb hz))
      obtain ⟨C0, -, C2, -, -, -, C6, C7, -, C9, -, C11⟩ := X2.out.cm'
      have C0 := Lib.hid C0
      have C2 := Lib.hid C2
      have C6 := Lib.hid C6
      have C7 := Lib.hid C7
      have C9 := Lib.hid C9
      have C11 := Lib.hid C11
      refine region_t (fun v => Below w2.heap.size w2 v) 12 (by kernel_rfl) (by kernel_rfl) (by kernel_rfl) (Below.refl _ _).drew ?_
      obtain ⟨d0, hd0⟩ : ∃ wd, w2.drew = wd := ⟨_, rfl⟩
      have J0 : Hid (Below w2.heap.size w2 d0) := Lib.hid (by rw [← hd0]; exact (Below.refl _ _).drew)
      rw [hd0]
      clear hd0
      (refine t_read 0 rfl (by kernel_rfl) (by kernel_rfl) (by kernel_rfl) (t_free rfl) ?_ ?_ ?_; rotate_left; (focus (intro v hv; go_simp; rfl)); go_simp)
      (refine t_read 1 rfl (by kernel_rfl) (by kernel_rfl) (by kernel_rfl) (t_free rfl) ?_ ?_ ?_; rotate_left; (focus (intro v hv; have x0 := (hv.cell (p := ⟨w.heap.size, 0, none⟩) X2.out.lt).trans C0.out; have x2 := (hv.cell (p := ⟨w.heap.size, 2, none⟩) X2.out.lt).trans C2.out; have x6 := (hv.cell (p := ⟨w.heap.size, 6, none⟩) X2.out.lt).trans C6.out; have x7 := (hv.cell (p := ⟨w.heap.size, 7, none⟩) X2.out.lt).trans C7.out; have x9 := (hv.cell (p := ⟨w.heap.size, 9, none⟩) X2.out.lt).trans C9.out; have x11 := (hv.cell (p := ⟨w.heap.size, 11, none⟩) X2.out.lt).trans C11.out; go_simp; rfl)); go_simp)
      (refine t_read 3 rfl (by kernel_rfl) (by kernel_rfl) (by kernel_rfl) (t_free rfl) ?_ ?_ ?_; rotate_left; (focus (intro v hv; go_simp; rfl)); go_simp)
      (refine t_read 4 rfl (by kernel_rfl) (by kernel_rfl) (by kernel_rfl) (t_free rfl) ?_ ?_ ?_; rotate_left; (focus (intro v hv; go_simp; rfl)); go_simp)
      (refine t_read 5 rfl (by kernel_rfl) (by kernel_rfl) (by kernel_rfl) (t_free rfl) ?_ ?_ ?_; rotate_left; (focus (intro v hv; have x0 := (hv.cell (p := ⟨w.heap.size, 0, none⟩) X2.out.lt).trans C0.out; have x2 := (hv.cell (p := ⟨w.heap.size, 2, none⟩) X2.out.lt).trans C2.out; have x6 := (hv.cell (p := ⟨w.heap.size, 6, none⟩) X2.out.lt).trans C6.out; have x7 := (hv.cell (p := ⟨w.heap.size, 7, none⟩) X2.out.lt).trans C7.out; have x9 := (hv.cell (p := ⟨w.heap.size, 9, none⟩) X2.out.lt).trans C9.out; have x11 := (hv.cell (p := ⟨w.heap.size, 11, none⟩) X2.out.lt).trans C11.out; go_simp; rfl)); go_simp)
      (refine t_read 6 rfl (by kernel_rfl) (by kernel_rfl) (by kernel_rfl) (t_free rfl) ?_ ?_ ?_; rotate_left; (focus (intro v hv; go_simp; rfl)); go_simp)
      (refine t_read 7 rfl (by kernel_rfl) (by kernel_rfl) (by kernel_rfl) (t_free rfl) ?_ ?_ ?_; rotate_left; (focus (intro v hv; have x0 := (hv.cell (p := ⟨w.heap.size, 0, none⟩) X2.out.lt).trans C0.out; have x2 := (hv.cell (p := ⟨w.heap.size, 2, none⟩) X2.out.lt).trans C2.out; have x6 := (hv.cell (p := ⟨w.heap.size, 6, none⟩) X2.out.lt).trans C6.out; have x7 := (hv.cell (p := ⟨w.heap.size, 7, none⟩) X2.out.lt).trans C7.out; have x9 := (hv.cell (p := ⟨w.heap.size, 9, none⟩) X2.out.lt).trans C9.out; have x11 := (hv.cell (p := ⟨w.heap.size, 11, none⟩) X2.out.lt).trans C11.out; go_simp; rfl)); go_simp)
      (refine t_read 8 rfl (by kernel_rfl) (by kernel_rfl) (by kernel_rfl) (t_free rfl) ?_ ?_ ?_; rotate_left; (focus (intro v hv; go_simp; rfl)); go_simp)
      (refine t_read 9 rfl (by kernel_rfl) (by kernel_rfl) (by kernel_rfl) (t_free rfl) ?_ ?_ ?_; rotate_left; (focus (intro v hv; have x0 := (hv.cell (p := ⟨w.heap.size, 0, none⟩) X2.out.lt).trans C0.out; have x2 := (hv.cell (p := ⟨w.heap.size, 2, none⟩) X2.out.lt).trans C2.out; have x6 := (hv.cell (p := ⟨w.heap.size, 6, none⟩) X2.out.lt).trans C6.out; have x7 := (hv.cell (p := ⟨w.heap.size, 7, none⟩) X2.out.lt).trans C7.out; have x9 := (hv.cell (p := ⟨w.heap.size, 9, none⟩) X2.out.lt).trans C9.out; have x11 := (hv.cell (p := ⟨w.heap.size, 11, none⟩) X2.out.lt).trans C11.out; go_simp; rfl)); go_simp)
      (refine t_ct 2 11 rfl rfl (by kernel_rfl) rfl rfl (t_free rfl) 23 ?_ ?_ ?_ ?_; rotate_left; (focus (go_simp; rfl)))
      · refine (HA.out d0).mono ?_
        rintro z wz ⟨rfl, rfl⟩
        refine ⟨_, rfl, J0.out, ?_⟩
        go_simp
        have qb := dd_built5 ac time cl sp nm
        (refine t_read 10 rfl (by kernel_rfl) (by kernel_rfl) (by kernel_rfl) (t_free rfl) ?_ ?_ ?_; rotate_left; (focus (intro v hv; go_simp; rfl)); go_simp)
        (refine t_list 11 rfl (by kernel_rfl) rfl ?_; intro K hK)
        refine alloc_row rfl _ rfl _ DZ.out ?_
        intro d1 hr hb hz
        obtain ⟨gd, hgd⟩ : ∃ g, d0.heap.size = g := ⟨_, rfl⟩
        rw [hgd] at hr
        have D1 := Lib.hid hr
        have GD := Lib.hid (show w1.heap.size ≠ gd by rw [← hgd]; exact Nat.ne_of_lt (Nat.lt_of_lt_of_le E2.out.lt J0.out.size))
        have GX := Lib.hid (show w.heap.size ≠ gd by rw [← hgd]; exact Nat.ne_of_lt (Nat.lt_of_lt_of_le X2.out.lt J0.out.size))
        have GB := Lib.hid (show w.heap.size ≤ gd by rw [← hgd]; exact Nat.le_trans B2.out.size J0.out.size)
        have J1 := Lib.hid (J0.out.trans (hb.mono J0.out.size))
        clear hr hb hz
        rw [hgd]
        clear hgd
        refine hK _ _ J1.out ?_
        go_simp
        (refine t_last 12 rfl (by kernel_rfl) rfl (by kernel_rfl) (by kernel_rfl) ?_; intro K hK)
        refine store_row rfl _ _ _ rfl gd (ddC ac time cl 0 sp nm) (by go_simp) (by first | (go_simp; done) | (go_simp; rfl)) 40 _ D1.out DZS.out rfl (dd_one _ _ _ _ _ _) ?_
        intro w7 hr hu
        have R7 := Lib.hid hr
        have E7 := Lib.hid ((E2.out.below J1.out E2.out.lt).upd hu GD.out)
        have X7 := Lib.hid ((X2.out.below J1.out X2.out.lt).upd hu GX.out)
        have B7 := Lib.hid ((B2.out.trans (J1.out.mono B2.out.size)).trans (hu.below GB.out))
        clear hr hu
        refine hK _ _ ?_
        go_simp
        have c2 := X7.out.cm'.c2
        have c11 := X7.out.cm'.c11
        go_wp2_with (first
          | (go_at_call 47; (with_reducible refine (HB.out w7 B7.out).mono ?_); rintro z w10 ⟨rfl, hb⟩; have R10 := Lib.hid (R7.out.below hb R7.out.lt); have E10 := Lib.hid (E7.out.below hb E7.out.lt); have B10 := Lib.hid (B7.out.trans (hb.mono B7.out.size)); clear hb)
          | ((with_reducible refine store_cell (o := ⟨none, _, _, _, _, _⟩) rfl _ (.tmp 32) _ rfl gd 3 (.int .i64 bt) ?_ ?_ rfl rfl 40 _ R10.out ?_ ?_ ?_); (focus go_simp); (focus (first | (go_simp; done) | (go_simp; rfl))); (focus (kernel_rfl)); (focus (show 3 < 6; decide)); intro w8 hr hu; have R8 := Lib.hid (show Row w8 gd 40 (ddC ac time cl bt sp nm) from hr); have E8 := Lib.hid (E10.out.upd hu GD.out); have B8 := Lib.hid (B10.out.trans (hu.below GB.out)); clear hr hu)
          | ((with_reducible refine load_row (o := ⟨some 33, _, _, _, _, _⟩) rfl _ _ rfl gd ?_ _ (ddC ac time cl bt sp nm) _ R8.out Try.underlying40 rfl ?_ ?_); (focus go_simp); (focus (exact DZS.out)))
          | ((with_reducible refine store_row (o := ⟨none, _, _, _, _, _⟩) rfl _ (.tmp 4) _ rfl w1.heap.size (ddC ac time cl bt sp nm) ?_ ?_ 40 _ E8.out ?_ ?_ ?_ ?_); (focus go_simp); (focus (first | (go_simp; done) | (go_simp; rfl))); (focus (exact DZS.out)); (focus rfl); (focus (exact dd_one _ _ _ _ _ _)); intro w9 hr hu; have R9 := Lib.hid hr; have B9 := Lib.hid (B8.out.trans (hu.below B1.out.size)); clear hr hu))
        exact bodyPost_ret (results_cell_row rfl _ _ w1.heap.size 40 _ _ _ (by go_simp) R9.out Try.underlying40 rfl DZS.out) rfl ⟨rfl, B9.out⟩
      · intro K hK
        refine alloc_row rfl _ rfl _ DZ.out ?_
        intro d1 hr hb hz
        obtain ⟨gd, hgd⟩ : ∃ g, d0.heap.size = g := ⟨_, rfl⟩
        rw [hgd] at hr
        have D1 := Lib.hid hr
        have GD := Lib.hid (show w1.heap.size ≠ gd by rw [← hgd]; exact Nat.ne_of_lt (Nat.lt_of_lt_of_le E2.out.lt J0.out.size))
        have GX := Lib.hid (show w.heap.size ≠ gd by rw [← hgd]; exact Nat.ne_of_lt (Nat.lt_of_lt_of_le X2.out.lt J0.out.size))
        have GB := Lib.hid (show w.heap.size ≤ gd by rw [← hgd]; exact Nat.le_trans B2.out.size J0.out.size)
        have J1 := Lib.hid (J0.out.trans (hb.mono J0.out.size))
        clear hr hb hz
        rw [hgd]
        clear hgd
        refine hK _ _ J1.out ?_
        go_simp
        (refine t_call 2 rfl (by kernel_rfl) rfl (t_free rfl) 23 ?_ ?_ ?_; rotate_left; (focus (go_simp; rfl)))
        refine (HA.out d1).mono ?_
        rintro z wz ⟨rfl, rfl⟩
        refine ⟨_, rfl, J1.out, ?_⟩
        go_simp
        have qb := dd_built5 ac time cl sp nm
        (refine t_read 10 rfl (by kernel_rfl) (by kernel_rfl) (by kernel_rfl) (t_free rfl) ?_ ?_ ?_; rotate_left; (focus (intro v hv; go_simp; rfl)); go_simp)
        (refine t_last 12 rfl (by kernel_rfl) rfl (by kernel_rfl) (by kernel_rfl) ?_; intro K hK)
        refine store_row rfl _ _ _ rfl gd (ddC ac time cl 0 sp nm) (by go_simp) (by first | (go_simp; done) | (go_simp; rfl)) 40 _ D1.out DZS.out rfl (dd_one _ _ _ _ _ _) ?_
        intro w7 hr hu
        have R7 := Lib.hid hr
        have E7 := Lib.hid ((E2.out.below J1.out E2.out.lt).upd hu GD.out)
        have X7 := Lib.hid ((X2.out.below J1.out X2.out.lt).upd hu GX.out)
        have B7 := Lib.hid ((B2.out.trans (J1.out.mono B2.out.size)).trans (hu.below GB.out))
        clear hr hu
        refine hK _ _ ?_
        go_simp
        have c2 := X7.out.cm'.c2
        have c11 := X7.out.cm'.c11
        go_wp2_with (first
          | (go_at_call 47; (with_reducible refine (HB.out w7 B7.out).mono ?_); rintro z w10 ⟨rfl, hb⟩; have R10 := Lib.hid (R7.out.below hb R7.out.lt); have E10 := Lib.hid (E7.out.below hb E7.out.lt); have B10 := Lib.hid (B7.out.trans (hb.mono B7.out.size)); clear hb)
          | ((with_reducible refine store_cell (o := ⟨none, _, _, _, _, _⟩) rfl _ (.tmp 32) _ rfl gd 3 (.int .i64 bt) ?_ ?_ rfl rfl 40 _ R10.out ?_ ?_ ?_); (focus go_simp); (focus (first | (go_simp; done) | (go_simp; rfl))); (focus (kernel_rfl)); (focus (show 3 < 6; decide)); intro w8 hr hu; have R8 := Lib.hid (show Row w8 gd 40 (ddC ac time cl bt sp nm) from hr); have E8 := Lib.hid (E10.out.upd hu GD.out); have B8 := Lib.hid (B10.out.trans (hu.below GB.out)); clear hr hu)
          | ((with_reducible refine load_row (o := ⟨some 33, _, _, _, _, _⟩) rfl _ _ rfl gd ?_ _ (ddC ac time cl bt sp nm) _ R8.out Try.underlying40 rfl ?_ ?_); (focus go_simp); (focus (exact DZS.out)))
          | ((with_reducible refine store_row (o := ⟨none, _, _, _, _, _⟩) rfl _ (.tmp 4) _ rfl w1.heap.size (ddC ac time cl bt sp nm) ?_ ?_ 40 _ E8.out ?_ ?_ ?_ ?_); (focus go_simp); (focus (first | (go_simp; done) | (go_simp; rfl))); (focus (exact DZS.out)); (focus rfl); (focus (exact dd_one _ _ _ _ _ _)); intro w9 hr hu; have R9 := Lib.hid hr; have B9 := Lib.hid (B8.out.trans (hu.below B1.out.size)); clear hr hu))
        exact bodyPost_ret (results_cell_row rfl _ _ w1.heap.size 40 _ _ _ (by go_simp) R9.out Try.underlying40 rfl DZS.out) rfl ⟨rfl, B9.out⟩
    · rw [if_neg k2, if_neg k4] at hb0
      subst hb0
      have q2 : (kd == 2) = false := by simpa using k2
      have q4 : (kd == 4) = false := by simpa using k4
      clear HB
      go_enter Try.func19, Try.ntmps19
      go_wp2_with (first
        | ((with_reducible refine box_row (o := ⟨some 2, _, _, _, _, _⟩) rfl _ _ rfl (cmC cl sq kd id ep va vn vc sp nm nu by1 ti pa pn pc) rfl ?_); intro w1 hr hb hz; have X1 := Lib.hid hr; have B1 := Lib.hid hb; clear hr hb hz)
        | ((with_reducible refine alloc_row (o := ⟨some 4, _, _, _, _, _⟩) rfl _ rfl _ DZ.out ?_); intro w2 hr hb hz; have E2 := Lib.hid hr; have X2 := Lib.hid (X1.out.below hb X1.out.lt); have B2 := Lib.hid (B1.out.trans (hb.mono B1.out.size)); clear hr hb hz))
      obtain ⟨C0, -, C2, -, -, -, C6, C7, -, C9, -, C11⟩ := X2.out.cm'
      have C0 := Lib.hid C0
      have C2 := Lib.hid C2
      have C6 := Lib.hid C6
      have C7 := Lib.hid C7
      have C9 := Lib.hid C9
      have C11 := Lib.hid C11
      refine region_t (fun v => Below w2.heap.size w2 v) 12 (by kernel_rfl) (by kernel_rfl) (by kernel_rfl) (Below.refl _ _).drew ?_
      obtain ⟨d0, hd0⟩ : ∃ wd, w2.drew = wd := ⟨_, rfl⟩
      have J0 : Hid (Below w2.heap.size w2 d0) := Lib.hid (by rw [← hd0]; exact (Below.refl _ _).drew)
      rw [hd0]
      clear hd0
      (refine t_read 0 rfl (by kernel_rfl) (by kernel_rfl) (by kernel_rfl) (t_free rfl) ?_ ?_ ?_; rotate_left; (focus (intro v hv; go_simp; rfl)); go_simp)
      (refine t_read 1 rfl (by kernel_rfl) (by kernel_rfl) (by kernel_rfl) (t_free rfl) ?_ ?_ ?_; rotate_left; (focus (intro v hv; have x0 := (hv.cell (p := ⟨w.heap.size, 0, none⟩) X2.out.lt).trans C0.out; have x2 := (hv.cell (p := ⟨w.heap.size, 2, none⟩) X2.out.lt).trans C2.out; have x6 := (hv.cell (p := ⟨w.heap.size, 6, none⟩) X2.out.lt).trans C6.out; have x7 := (hv.cell (p := ⟨w.heap.size, 7, none⟩) X2.out.lt).trans C7.out; have x9 := (hv.cell (p := ⟨w.heap.size, 9, none⟩) X2.out.lt).trans C9.out; have x11 := (hv.cell (p := ⟨w.heap.size, 11, none⟩) X2.out.lt).trans C11.out; go_simp; rfl)); go_simp)
      (refine t_read 3 rfl (by kernel_rfl) (by kernel_rfl) (by kernel_rfl) (t_free rfl) ?_ ?_ ?_; rotate_left; (focus (intro v hv; go_simp; rfl)); go_simp)
      (refine t_read 4 rfl (by kernel_rfl) (by kernel_rfl) (by kernel_rfl) (t_free rfl) ?_ ?_ ?_; rotate_left; (focus (intro v hv; go_simp; rfl)); go_simp)
      (refine t_read 5 rfl (by kernel_rfl) (by kernel_rfl) (by kernel_rfl) (t_free rfl) ?_ ?_ ?_; rotate_left; (focus (intro v hv; have x0 := (hv.cell (p := ⟨w.heap.size, 0, none⟩) X2.out.lt).trans C0.out; have x2 := (hv.cell (p := ⟨w.heap.size, 2, none⟩) X2.out.lt).trans C2.out; have x6 := (hv.cell (p := ⟨w.heap.size, 6, none⟩) X2.out.lt).trans C6.out; have x7 := (hv.cell (p := ⟨w.heap.size, 7, none⟩) X2.out.lt).trans C7.out; have x9 := (hv.cell (p := ⟨w.heap.size, 9, none⟩) X2.out.lt).trans C9.out; have x11 := (hv.cell (p := ⟨w.heap.size, 11, none⟩) X2.out.lt).trans C11.out; go_simp; rfl)); go_simp)
      (refine t_read 6 rfl (by kernel_rfl) (by kernel_rfl) (by kernel_rfl) (t_free rfl) ?_ ?_ ?_; rotate_left; (focus (intro v hv; go_simp; rfl)); go_simp)
      (refine t_read 7 rfl (by kernel_rfl) (by kernel_rfl) (by kernel_rfl) (t_free rfl) ?_ ?_ ?_; rotate_left; (focus (intro v hv; have x0 := (hv.cell (p := ⟨w.heap.size, 0, none⟩) X2.out.lt).trans C0.out; have x2 := (hv.cell (p := ⟨w.heap.size, 2, none⟩) X2.out.lt).trans C2.out; have x6 := (hv.cell (p := ⟨w.heap.size, 6, none⟩) X2.out.lt).trans C6.out; have x7 := (hv.cell (p := ⟨w.heap.size, 7, none⟩) X2.out.lt).trans C7.out; have x9 := (hv.cell (p := ⟨w.heap.size, 9, none⟩) X2.out.lt).trans C9.out; have x11 := (hv.cell (p := ⟨w.heap.size, 11, none⟩) X2.out.lt).trans C11.out; go_simp; rfl)); go_simp)
      (refine t_read 8 rfl (by kernel_rfl) (by kernel_rfl) (by kernel_rfl) (t_free rfl) ?_ ?_ ?_; rotate_left; (focus (intro v hv; go_simp; rfl)); go_simp)
      (refine t_read 9 rfl (by kernel_rfl) (by kernel_rfl) (by kernel_rfl) (t_free rfl) ?_ ?_ ?_; rotate_left; (focus (intro v hv; have x0 := (hv.cell (p := ⟨w.heap.size, 0, none⟩) X2.out.lt).trans C0.out; have x2 := (hv.cell (p := ⟨w.heap.size, 2, none⟩) X2.out.lt).trans C2.out; have x6 := (hv.cell (p := ⟨w.heap.size, 6, none⟩) X2.out.lt).trans C6.out; have x7 := (hv.cell (p := ⟨w.heap.size, 7, none⟩) X2.out.lt).trans C7.out; have x9 := (hv.cell (p := ⟨w.heap.size, 9, none⟩) X2.out.lt).trans C9.out; have x11 := (hv.cell (p := ⟨w.heap.size, 11, none⟩) X2.out.lt).trans C11.out; go_simp; rfl)); go_simp)
      (refine t_ct 2 11 rfl rfl (by kernel_rfl) rfl rfl (t_free rfl) 23 ?_ ?_ ?_ ?_; rotate_left; (focus (go_simp; rfl)))
      · refine (HA.out d0).mono ?_
        rintro z wz ⟨rfl, rfl⟩
        refine ⟨_, rfl, J0.out, ?_⟩
        go_simp
        have qb := dd_built5 ac time cl sp nm
        (refine t_read 10 rfl (by kernel_rfl) (by kernel_rfl) (by kernel_rfl) (t_free rfl) ?_ ?_ ?_; rotate_left; (focus (intro v hv; go_simp; rfl)); go_simp)
        (refine t_list 11 rfl (by kernel_rfl) rfl ?_; intro K hK)
        refine alloc_row rfl _ rfl _ DZ.out ?_
        intro d1 hr hb hz
        obtain ⟨gd, hgd⟩ : ∃ g, d0.heap.size = g := ⟨_, rfl⟩
        rw [hgd] at hr
        have D1 := Lib.hid hr
        have GD := Lib.hid (show w1.heap.size ≠ gd by rw [← hgd]; exact Nat.ne_of_lt (Nat.lt_of_lt_of_le E2.out.lt J0.out.size))
        have GX := Lib.hid (show w.heap.size ≠ gd by rw [← hgd]; exact Nat.ne_of_lt (Nat.lt_of_lt_of_le X2.out.lt J0.out.size))
        have GB := Lib.hid (show w.heap.size ≤ gd by rw [← hgd]; exact Nat.le_trans B2.out.size J0.out.size)
        have J1 := Lib.hid (J0.out.trans (hb.mono J0.out.size))
        clear hr hb hz
        rw [hgd]
        clear hgd
        refine hK _ _ J1.out ?_
        go_simp
        (refine t_last 12 rfl (by kernel_rfl) rfl (by kernel_rfl) (by kernel_rfl) ?_; intro K hK)
        refine store_row rfl _ _ _ rfl gd (ddC ac time cl 0 sp nm) (by go_simp) (by first | (go_simp; done) | (go_simp; rfl)) 40 _ D1.out DZS.out rfl (dd_one _ _ _ _ _ _) ?_
        intro w7 hr hu
        have R7 := Lib.hid hr
        have E7 := Lib.hid ((E2.out.below J1.out E2.out.lt).upd hu GD.out)
        have X7 := Lib.hid ((X2.out.below J1.out X2.out.lt).upd hu GX.out)
        have B7 := Lib.hid ((B2.out.trans (J1.out.mono B2.out.size)).trans (hu.below GB.out))
        clear hr hu
        refine hK _ _ ?_
        go_simp
        have c2 := X7.out.cm'.c2
        go_wp2_with (first
          | ((with_reducible refine load_row (o := ⟨some 33, _, _, _, _, _⟩) rfl _ _ rfl gd ?_ _ (ddC ac time cl 0 sp nm) _ R7.out Try.underlying40 rfl ?_ ?_); (focus go_simp); (focus (exact DZS.out)))
          | ((with_reducible refine store_row (o := ⟨none, _, _, _, _, _⟩) rfl _ (.tmp 4) _ rfl w1.heap.size (ddC ac time cl 0 sp nm) ?_ ?_ 40 _ E7.out ?_ ?_ ?_ ?_); (focus go_simp); (focus (first | (go_simp; done) | (go_simp; rfl))); (focus (exact DZS.out)); (focus rfl); (focus (exact dd_one _ _ _ _ _ _)); intro w9 hr hu; have R9 := Lib.hid hr; have B9 := Lib.hid (B7.out.trans (hu.below B1.out.size)); clear hr hu))
        exact bodyPost_ret (results_cell_row rfl _ _ w1.heap.size 40 _ _ _ (by go_simp) R9.out Try.underlying40 rfl DZS.out) rfl ⟨rfl, B9.out⟩
      · intro K hK
        refine alloc_row rfl _ rfl _ DZ.out ?_
        intro d1 hr hb hz
        obtain ⟨gd, hgd⟩ : ∃ g, d0.heap.size = g := ⟨_, rfl⟩
        rw [hgd] at hr
        have D1 := Lib.hid hr
        have GD := Lib.hid (show w1.heap.size ≠ gd by rw [← hgd]; exact Nat.ne_of_lt (Nat.lt_of_lt_of_le E2.out.lt J0.out.size))
        have GX := Lib.hid (show w.heap.size ≠ gd by rw [← hgd]; exact Nat.ne_of_lt (Nat.lt_of_lt_of_le X2.out.lt J0.out.size))
        have GB := Lib.hid (show w.heap.size ≤ gd by rw [← hgd]; exact Nat.le_trans B2.out.size J0.out.size)
        have J1 := Lib.hid (J0.out.trans (hb.mono J0.out.size))
        clear hr hb hz
        rw [hgd]
        clear hgd
        refine hK _ _ J1.out ?_
        go_simp
        (refine t_call 2 rfl (by kernel_rfl) rfl (t_free rfl) 23 ?_ ?_ ?_; rotate_left; (focus (go_simp; rfl)))
        refine (HA.out d1).mono ?_
        rintro z wz ⟨rfl, rfl⟩
        refine ⟨_, rfl, J1.out, ?_⟩
        go_simp
        have qb := dd_built5 ac time cl sp nm
        (refine t_read 10 rfl (by kernel_rfl) (by kernel_rfl) (by kernel_rfl) (t_free rfl) ?_ ?_ ?_; rotate_left; (focus (intro v hv; go_simp; rfl)); go_simp)
        (refine t_last 12 rfl (by kernel_rfl) rfl (by kernel_rfl) (by kernel_rfl) ?_; intro K hK)
        refine store_row rfl _ _ _ rfl gd (ddC ac time cl 0 sp nm) (by go_simp) (by first | (go_simp; done) | (go_simp; rfl)) 40 _ D1.out DZS.out rfl (dd_one _ _ _ _ _ _) ?_
        intro w7 hr hu
        have R7 := Lib.hid hr
        have E7 := Lib.hid ((E2.out.below J1.out E2.out.lt).upd hu GD.out)
        have X7 := Lib.hid ((X2.out.below J1.out X2.out.lt).upd hu GX.out)
        have B7 := Lib.hid ((B2.out.trans (J1.out.mono B2.out.size)).trans (hu.below GB.out))
        clear hr hu
        refine hK _ _ ?_
        go_simp
        have c2 := X7.out.cm'.c2
        go_wp2_with (first
          | ((with_reducible refine load_row (o := ⟨some 33, _, _, _, _, _⟩) rfl _ _ rfl gd ?_ _ (ddC ac time cl 0 sp nm) _ R7.out Try.underlying40 rfl ?_ ?_); (focus go_simp); (focus (exact DZS.out)))
          | ((with_reducible refine store_row (o := ⟨none, _, _, _, _, _⟩) rfl _ (.tmp 4) _ rfl w1.heap.size (ddC ac time cl 0 sp nm) ?_ ?_ 40 _ E7.out ?_ ?_ ?_ ?_); (focus go_simp); (focus (first | (go_simp; done) | (go_simp; rfl))); (focus (exact DZS.out)); (focus rfl); (focus (exact dd_one _ _ _ _ _ _)); intro w9 hr hu; have R9 := Lib.hid hr; have B9 := Lib.hid (B7.out.trans (hu.below B1.out.size)); clear hr hu))
        exact bodyPost_ret (results_cell_row rfl _ _ w1.heap.size 40 _ _ _ (by go_simp) R9.out Try.underlying40 rfl DZS.out) rfl ⟨rfl, B9.out⟩
end Go.Proofs.Ytmacjpgeamlmhaa.W
