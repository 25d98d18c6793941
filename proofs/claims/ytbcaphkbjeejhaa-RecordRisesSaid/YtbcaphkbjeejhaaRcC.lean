/- LAYER 11 (record): fits and Check of the program, Check of the reference. -/
import Derived.Test.YtbcaphkbjeejhaaRcP
set_option linter.unusedSimpArgs false
set_option linter.unusedVariables false
namespace Go.Proofs.Ytbcaphkbjeejhaa.W
open Go Go.ChangeShapes Go.WideShapes Go.ChangeAt Go.RowKit
open Go.Proofs.Ytbcaphkbjeejhaa.P (enc dec)

/-- a whole struct is read -/
theorem load_all {P : Program} {o : Oper} {a : Act} {w : World} (ty : TypeId) (x : Operand) (ho : o.op = .load ty x) (g : Nat) (hx : a.eval x = .pointer (some ⟨g, 0, none⟩)) (t : TypeId) (L : List Value) (d : TypeDesc) (hr : Row w g t L)
    (hu : P.underlying ty = some d) (hd : (match d with | .struct _ | .array _ _ => true | _ => false) = true) (hi : (P.info? ty).map (·.size) = some L.length) : (execOp a.eval o).run P w = .ok (.value (.agg L.toArray)) w := by
  have hl : (loadCells ⟨g, 0, none⟩ L.length).run P w = .ok L.toArray w := run_loadCells_list (P := P) w ⟨g, 0, none⟩ L (fun j v hv => by rw [Go.WideShapes.add_plain, Nat.zero_add, hr.cellV]; exact hv)
  have hagg : (isAgg ty).run P w = .ok true w := by
    unfold isAgg
    rw [Sem.run_bind, run_underlying hu w]
    cases d <;> simp_all
  unfold execOp
  cases hq : P.info? ty with
  | none => simp [hq] at hi
  | some i =>
    have hs : i.size = L.length := by simpa [hq] using hi
    simp [ho, hx, Instr.loadAt, Instr.sureAddr, loadVar, Sem.run_bind, hagg, sizeOf, typeInfo, hq, hs, hl, Result.andThen]
theorem ch2 : ∀ b0 b1 : Bool, (b0 = false) ∨ (b0 = true ∧ b1 = false) ∨ (b0 = true ∧ b1 = true) := by decide

set_option maxRecDepth 100000 in
set_option maxHeartbeats 8000000 in
theorem rfits1 (t v ix tm kd i f : Int) (a sa : Option Addr) (n c sn sc : Nat) (w : World) : Calls Try.prog 91 #[.agg (Rc.cells ⟨1, t, v, ⟨ix, tm, kd, a, n, c⟩, i, f, sa, sn, sc⟩).toArray] w fun x w' => x = .returned (.bool (fitsR ⟨1, t, v, ⟨ix, tm, kd, a, n, c⟩, i, f, sa, sn, sc⟩)) ∧ Below w.heap.size w w' := by
  obtain ⟨b0, h0⟩ : ∃ b, inV i 0 2147483648 = b := ⟨_, rfl⟩
  obtain ⟨b1, h1⟩ : ∃ b, inV t 0 2147483648 = b := ⟨_, rfl⟩
  obtain ⟨b2, h2⟩ : ∃ b, inV f 0 127 = b := ⟨_, rfl⟩
  obtain ⟨b3, h3⟩ : ∃ b, decide (sn ≤ 131072) = b := ⟨_, rfl⟩
  have h3' : decide ((sn : Int) ≤ 131072) = b3 := by rw [← h3, decide_eq_decide]; omega
  have hx : fitsR ⟨1, t, v, ⟨ix, tm, kd, a, n, c⟩, i, f, sa, sn, sc⟩ = (b0 && (b1 && (b2 && b3))) := by unfold fitsR; rw [if_pos rfl, ← h0, ← h1, ← h2, ← h3]
  have HX := Lib.hid hx
  have H0 := Lib.hid h0
  have H1 := Lib.hid h1
  have H2 := Lib.hid h2
  unfold Rc.cells
  dsimp only
  clear hx h0 h1 h2 h3
  rcases ch4 b0 b1 b2 b3 with rfl | ⟨rfl, rfl⟩ | ⟨rfl, rfl, rfl⟩ | ⟨rfl, rfl, rfl, rfl⟩ | ⟨rfl, rfl, rfl, rfl⟩
  all_goals
    go_enter Try.func91, Try.ntmps91
    go_wp2_with (first
      | (with_reducible refine box_row (o := ⟨some 1, _, _, _, _, _⟩) rfl _ _ rfl [.int .i64 1, .int .i64 t, .int .i64 v, .int .i64 ix, .int .i64 tm, .int .i64 kd, .slice a n c, .int .i64 i, .int .i64 f, .slice sa sn sc] rfl ?_; intro w1 hr1 hb1 hz1; have HR1 := Lib.hid hr1; obtain ⟨c0, c1, c2, c3, c4, c5, c6, c7, c8, c9⟩ := hr1.q10; have B1 := Lib.hid hb1; clear hr1 hb1 hz1)
      | (go_at_call 99; with_reducible refine (rwithin i 0 2147483648 _).mono ?_; rw [H0.out]; rintro x w' ⟨rfl, rfl⟩)
      | (go_at_call 99; with_reducible refine (rwithin t 0 2147483648 _).mono ?_; rw [H1.out]; rintro x w' ⟨rfl, rfl⟩)
      | (go_at_call 99; with_reducible refine (rwithin f 0 127 _).mono ?_; rw [H2.out]; rintro x w' ⟨rfl, rfl⟩))
    go_ret
    exact ⟨one (vbool (by rw [HX.out]; simp)), B1.out⟩

set_option maxRecDepth 100000 in
set_option maxHeartbeats 8000000 in
theorem rfits2 (t v ix tm kd i f : Int) (a sa : Option Addr) (n c sn sc : Nat) (w : World) : Calls Try.prog 91 #[.agg (Rc.cells ⟨2, t, v, ⟨ix, tm, kd, a, n, c⟩, i, f, sa, sn, sc⟩).toArray] w fun x w' => x = .returned (.bool (fitsR ⟨2, t, v, ⟨ix, tm, kd, a, n, c⟩, i, f, sa, sn, sc⟩)) ∧ Below w.heap.size w w' := by
  obtain ⟨b0, h0⟩ : ∃ b, inV t 0 2147483648 = b := ⟨_, rfl⟩
  obtain ⟨b1, h1⟩ : ∃ b, inV v 0 7 = b := ⟨_, rfl⟩
  have hx : fitsR ⟨2, t, v, ⟨ix, tm, kd, a, n, c⟩, i, f, sa, sn, sc⟩ = (b0 && b1) := by unfold fitsR; dsimp only; rw [if_neg (by decide), if_pos rfl, ← h0, ← h1]
  have HX := Lib.hid hx
  have H0 := Lib.hid h0
  have H1 := Lib.hid h1
  unfold Rc.cells
  dsimp only
  clear hx h0 h1
  rcases ch2 b0 b1 with rfl | ⟨rfl, rfl⟩ | ⟨rfl, rfl⟩
  all_goals
    go_enter Try.func91, Try.ntmps91
    go_wp2_with (first
      | (with_reducible refine box_row (o := ⟨some 1, _, _, _, _, _⟩) rfl _ _ rfl [.int .i64 2, .int .i64 t, .int .i64 v, .int .i64 ix, .int .i64 tm, .int .i64 kd, .slice a n c, .int .i64 i, .int .i64 f, .slice sa sn sc] rfl ?_; intro w1 hr1 hb1 hz1; have HR1 := Lib.hid hr1; obtain ⟨c0, c1, c2, c3, c4, c5, c6, c7, c8, c9⟩ := hr1.q10; have B1 := Lib.hid hb1; clear hr1 hb1 hz1)
      | (go_at_call 99; with_reducible refine (rwithin t 0 2147483648 _).mono ?_; rw [H0.out]; rintro x w' ⟨rfl, rfl⟩)
      | (go_at_call 99; with_reducible refine (rwithin v 0 7 _).mono ?_; rw [H1.out]; rintro x w' ⟨rfl, rfl⟩))
    go_ret
    exact ⟨one (vbool (by rw [HX.out]; simp)), B1.out⟩

set_option maxRecDepth 100000 in
set_option maxHeartbeats 8000000 in
theorem rfits3 (t v ix tm kd i f : Int) (a sa : Option Addr) (n c sn sc : Nat) (w : World) : Calls Try.prog 91 #[.agg (Rc.cells ⟨3, t, v, ⟨ix, tm, kd, a, n, c⟩, i, f, sa, sn, sc⟩).toArray] w fun x w' => x = .returned (.bool (fitsR ⟨3, t, v, ⟨ix, tm, kd, a, n, c⟩, i, f, sa, sn, sc⟩)) ∧ Below w.heap.size w w' := by
  have hx : fitsR ⟨3, t, v, ⟨ix, tm, kd, a, n, c⟩, i, f, sa, sn, sc⟩ = enOk ⟨ix, tm, kd, a, n, c⟩ := by unfold fitsR; dsimp only; rw [if_neg (by decide), if_neg (by decide), if_pos rfl]
  have HX := Lib.hid hx
  unfold Rc.cells
  dsimp only
  clear hx
  go_enter Try.func91, Try.ntmps91
  go_wp2_with (first
    | (with_reducible refine box_row (o := ⟨some 1, _, _, _, _, _⟩) rfl _ _ rfl [.int .i64 3, .int .i64 t, .int .i64 v, .int .i64 ix, .int .i64 tm, .int .i64 kd, .slice a n c, .int .i64 i, .int .i64 f, .slice sa sn sc] rfl ?_; intro w1 hr1 hb1 hz1; have HR1 := Lib.hid hr1; obtain ⟨c0, c1, c2, c3, c4, c5, c6, c7, c8, c9⟩ := hr1.q10; have B1 := Lib.hid hb1; clear hr1 hb1 hz1)
    | ((with_reducible refine load_cells (o := ⟨some 39, _, _, _, _, _⟩) rfl _ _ rfl w.heap.size 3 ?_ (En.cells ⟨ix, tm, kd, a, n, c⟩) _ (HR1.out.ent (r := ⟨3, t, v, ⟨ix, tm, kd, a, n, c⟩, i, f, sa, sn, sc⟩)) Try.underlying27 rfl ?_ ?_); (focus go_simp); (focus (exact en_size)))
    | (go_at_call 68; refine (rentry ⟨ix, tm, kd, a, n, c⟩ _).mono ?_; rintro x w2 ⟨rfl, hb2⟩; have B2 := Lib.hid (B1.out.trans (hb2.mono B1.out.size)); clear hb2))
  go_ret
  exact ⟨one (vbool HX.out.symm), B2.out⟩

set_option maxRecDepth 100000 in
set_option maxHeartbeats 8000000 in
theorem rfits4 (t v ix tm kd i f : Int) (a sa : Option Addr) (n c sn sc : Nat) (w : World) : Calls Try.prog 91 #[.agg (Rc.cells ⟨4, t, v, ⟨ix, tm, kd, a, n, c⟩, i, f, sa, sn, sc⟩).toArray] w fun x w' => x = .returned (.bool (fitsR ⟨4, t, v, ⟨ix, tm, kd, a, n, c⟩, i, f, sa, sn, sc⟩)) ∧ Below w.heap.size w w' := by
  have hx : fitsR ⟨4, t, v, ⟨ix, tm, kd, a, n, c⟩, i, f, sa, sn, sc⟩ = inV i 1 2147483648 := by unfold fitsR; dsimp only; rw [if_neg (by decide), if_neg (by decide), if_neg (by decide), if_pos rfl]
  have HX := Lib.hid hx
  unfold Rc.cells
  dsimp only
  clear hx
  go_enter Try.func91, Try.ntmps91
  go_wp2_with (first
    | (with_reducible refine box_row (o := ⟨some 1, _, _, _, _, _⟩) rfl _ _ rfl [.int .i64 4, .int .i64 t, .int .i64 v, .int .i64 ix, .int .i64 tm, .int .i64 kd, .slice a n c, .int .i64 i, .int .i64 f, .slice sa sn sc] rfl ?_; intro w1 hr1 hb1 hz1; have HR1 := Lib.hid hr1; obtain ⟨c0, c1, c2, c3, c4, c5, c6, c7, c8, c9⟩ := hr1.q10; have B1 := Lib.hid hb1; clear hr1 hb1 hz1)
    | (go_at_call 99; refine (rwithin i 1 2147483648 _).mono ?_; rintro x w' ⟨rfl, rfl⟩))
  go_ret
  exact ⟨one (vbool HX.out.symm), B1.out⟩

set_option maxRecDepth 100000 in
set_option maxHeartbeats 8000000 in
theorem rfitsk (k : Int) (k1 : (k == 1) = false) (k2 : (k == 2) = false) (k3 : (k == 3) = false) (k4 : (k == 4) = false) (t v ix tm kd i f : Int) (a sa : Option Addr) (n c sn sc : Nat) (w : World) : Calls Try.prog 91 #[.agg (Rc.cells ⟨k, t, v, ⟨ix, tm, kd, a, n, c⟩, i, f, sa, sn, sc⟩).toArray] w fun x w' => x = .returned (.bool (fitsR ⟨k, t, v, ⟨ix, tm, kd, a, n, c⟩, i, f, sa, sn, sc⟩)) ∧ Below w.heap.size w w' := by
  have hx : fitsR ⟨k, t, v, ⟨ix, tm, kd, a, n, c⟩, i, f, sa, sn, sc⟩ = false := by simp only [beq_eq_false_iff_ne] at k1 k2 k3 k4; unfold fitsR; dsimp only; rw [if_neg k1, if_neg k2, if_neg k3, if_neg k4]
  have HX := Lib.hid hx
  unfold Rc.cells
  dsimp only
  clear hx
  go_enter Try.func91, Try.ntmps91
  go_wp2_with (first
    | (with_reducible refine box_row (o := ⟨some 1, _, _, _, _, _⟩) rfl _ _ rfl [.int .i64 k, .int .i64 t, .int .i64 v, .int .i64 ix, .int .i64 tm, .int .i64 kd, .slice a n c, .int .i64 i, .int .i64 f, .slice sa sn sc] rfl ?_; intro w1 hr1 hb1 hz1; have HR1 := Lib.hid hr1; obtain ⟨c0, c1, c2, c3, c4, c5, c6, c7, c8, c9⟩ := hr1.q10; have B1 := Lib.hid hb1; clear hr1 hb1 hz1))
  go_ret
  exact ⟨one (vbool HX.out.symm), B1.out⟩
theorem rfits (r : Rc) (w : World) : Calls Try.prog 91 #[.agg r.cells.toArray] w fun x w' => x = .returned (.bool (fitsR r)) ∧ Below w.heap.size w w' := by
  obtain ⟨k, t, v, ⟨ix, tm, kd, a, n, c⟩, i, f, sa, sn, sc⟩ := r
  rcases kinds k with rfl | rfl | rfl | rfl | ⟨k1, k2, k3, k4⟩
  · exact rfits1 t v ix tm kd i f a sa n c sn sc w
  · exact rfits2 t v ix tm kd i f a sa n c sn sc w
  · exact rfits3 t v ix tm kd i f a sa n c sn sc w
  · exact rfits4 t v ix tm kd i f a sa n c sn sc w
  · exact rfitsk k k1 k2 k3 k4 t v ix tm kd i f a sa n c sn sc w
set_option maxRecDepth 100000 in
set_option maxHeartbeats 8000000 in
theorem rcheck (r : Rc) (l s : List UInt8) (w : World) (hl : Rd w r.e.a r.e.n r.e.c l) (hs : Rd w r.a r.n r.c s) : Calls Try.prog 51 #[.agg r.cells.toArray] w fun x w' => x = .returned (.int .i64 (chkR r l s)) ∧ Below w.heap.size w w' := by
  obtain ⟨b0, h0⟩ : ∃ b, fitsR r = b := ⟨_, rfl⟩
  obtain ⟨b1, h1⟩ : ∃ b, selfR r l s = b := ⟨_, rfl⟩
  have hx : chkR r l s = if b0 && b1 then 0 else 1 := by unfold chkR; rw [h0, h1]
  have HX := Lib.hid hx
  have HF := Lib.hid (fun w => rfits r w)
  have HO := Lib.hid (fun w => rown r w)
  have HS : Hid (∀ v, Below w.heap.size w v → Calls Try.prog 92 #[.agg r.cells.toArray, .agg r.own.cells.toArray] v fun x w' => x = .returned (.bool (selfR r l s)) ∧ Below v.heap.size v w') := Lib.hid (fun v hv => rsame r r.own l (ownE r l) s (ownS r s) v (hl.mono hv) (own_e (hl.mono hv)) (hs.mono hv) (own_s (hs.mono hv)))
  have HZ := Lib.hid (show (Try.prog.info? 29).map (·.size) = some r.cells.length from rc_size)
  obtain ⟨C, hC⟩ : ∃ C, r.cells = C := ⟨_, rfl⟩
  obtain ⟨O, hO⟩ : ∃ O, (Value.agg r.own.cells.toArray) = O := ⟨_, rfl⟩
  rw [h0] at HF
  rw [h1] at HS
  rw [hC] at HF HO HS HZ ⊢
  rw [hO] at HO HS
  clear hx h0 h1 hC hO hl hs
  rcases ch2 b0 b1 with rfl | ⟨rfl, rfl⟩ | ⟨rfl, rfl⟩
  all_goals
    go_enter Try.func51, Try.ntmps51
    go_wp2_with (with_reducible refine box_row (o := ⟨some 1, _, _, _, _, _⟩) rfl _ _ rfl C rfl ?_; intro w1 hr1 hb1 hz1; have HR1 := Lib.hid hr1; have B1 := Lib.hid hb1; clear hr1 hb1 hz1)
    refine region_w (C := fun v => Below w1.heap.size w1 v) (by kernel_rfl) (by kernel_rfl) (Below.refl _ _).drew ?_
    repeat (first
      | (refine w_read (wanted_free rfl) (.agg C.toArray) (fun v hv => load_all _ _ rfl w.heap.size (by go_simp) _ C _ (HR1.out.below hv HR1.out.lt) Try.underlying29 rfl HZ.out) ?_; go_simp)
      | (refine w_read (wanted_free rfl) ?_ ?_ ?_; rotate_left; (focus (intro v hv; go_simp; rfl)); go_simp)
      | (refine w_skip ?_ ?_; (focus (go_simp; first | done | (intro h; cases h) | simp)); go_simp)
      | (refine w_read ?_ (.agg C.toArray) (fun v hv => load_all _ _ rfl w.heap.size (by go_simp) _ C _ (HR1.out.below hv HR1.out.lt) Try.underlying29 rfl HZ.out) ?_; (focus (go_simp; done)); go_simp)
      | (refine w_read ?_ ?_ ?_ ?_; (focus (go_simp; done)); rotate_left; (focus (intro v hv; go_simp; rfl)); go_simp)
      | (refine w_call ?_ 91 ?_ ?_ ?_ ?_ ?_; (focus (go_simp; done)); rotate_left; (focus (intro v; go_simp; rfl)); rotate_left; (focus (intro v hv; exact q_grow (HF.out v) (by rfl) hv)); go_simp)
      | (refine w_call ?_ 93 ?_ ?_ ?_ ?_ ?_; (focus (go_simp; done)); rotate_left; (focus (intro v; go_simp; rfl)); rotate_left; (focus (intro v hv; exact q_grow (HO.out v) (by rfl) hv)); go_simp)
      | (refine w_call ?_ 92 ?_ ?_ ?_ ?_ ?_; (focus (go_simp; done)); rotate_left; (focus (intro v; go_simp; rfl)); rotate_left; (focus (intro v hv; exact q_grow (HS.out v (B1.out.trans (hv.mono B1.out.size))) (by rfl) hv)); go_simp))
    refine w_nil ?_
    intro w3 hb3
    go_wp2_with fail
    go_ret
    exact ⟨one (vint (by rw [HX.out]; simp)), B1.out.trans (hb3.mono B1.out.size)⟩
end Go.Proofs.Ytbcaphkbjeejhaa.W
