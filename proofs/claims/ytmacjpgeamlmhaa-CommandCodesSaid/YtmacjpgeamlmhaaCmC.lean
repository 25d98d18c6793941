/- LAYER 23 (command): Check of the program. -/
import Derived.Test.YtmacjpgeamlmhaaCmO
set_option linter.unusedSimpArgs false
set_option linter.unusedVariables false
namespace Go.Proofs.Ytmacjpgeamlmhaa.W
open Go Go.ChangeShapes Go.WideShapes Go.ChangeAt Go.RowKit
open Go.Proofs.Ytmacjpgeamlmhaa.S

theorem infoStr23 : (Try.prog.info? 9).map (fun i => (i.zero, i.size, i.bytes)) = some (some (.string ⟨#[]⟩), 1, 16) := by kernel_rfl
theorem fill_s2 (o : Oper) (a : Act) (x0 x1 : Operand) (v0 v1 : ByteArray) (i0 : TypeInfo) (hz1 : i0.size = 1) (h0 : a.eval x0 = .string v0) (h1 : a.eval x1 = .string v1) : Instr.fill (fun i => some (i * i0.size, i0.size)) ((Array.range (2 * i0.size)).map ((Value.string ⟨#[]⟩).cells[· % (Value.string ⟨#[]⟩).cells.size]!)) ((#[(0, x0), (1, x1)] : Array (Nat × Operand)).map fun (i, x) => (i, a.eval x)).toList = some #[.string v0, .string v1] := by
  rw [hz1]; simp only [List.map_toArray, List.map_cons, List.map_nil, h0, h1]; go_simp; first | done | rfl
set_option maxRecDepth 100000 in
theorem bs2 {w : World} {ops : Array Oper} {rest : List Oper} {o : Oper} {a : Act} {Q : Exit → Act → World → Prop} (hgd : o.guard = none) (x0 x1 : Operand)
    (ho : o.op = .buildSlice 95 2 #[(0, x0), (1, x1)]) (v0 v1 : ByteArray) (h0 : a.eval x0 = .string v0) (h1 : a.eval x1 = .string v1)
    (hk : ∀ w', Row w' w.heap.size 9 [.string v0, .string v1] → Below w.heap.size w w' → w'.heap.size = w.heap.size + 1 → wpList Try.prog ops Q rest (a.put o.dst (.slice (some ⟨w.heap.size, 0, none⟩) 2 2)) w') : wpList Try.prog ops Q (o :: rest) a w := by
  obtain ⟨i0, hi0, hz0, hz1, hz2⟩ := info_parts infoStr23
  refine wpList_buildSlice hgd 95 9 2 _ ho #[.string v0, .string v1] i0 _ Try.underlying95 hi0 hz0 (by rw [hz1]; decide) (by rw [hz1]; decide) (fill_s2 o a x0 x1 v0 v1 i0 hz1 h0 h1) ?_
  exact hk _ (Row.new _ _ _) ((Below.refl _ _).alloc (Nat.le_refl _) _) (by simp)
theorem cmw_ok (lo hi : Int) (l : List Int) (hb : allLH lo hi l = true) (a : Option Addr) (n c : Nat) (w : World) (h : Sl .i64 w a n l) :
    Calls Try.prog 40 #[.int .i64 lo, .int .i64 hi, .slice a n c] w fun x w' => x = .returned (.tuple #[]) ∧ w = w' := by
  have q := cmwithin lo hi a n c l w h; rw [hb] at q; exact q
theorem cmw_no (lo hi : Int) (l : List Int) (hb : allLH lo hi l = false) (a : Option Addr) (n c : Nat) (w : World) (h : Sl .i64 w a n l) :
    Calls Try.prog 40 #[.int .i64 lo, .int .i64 hi, .slice a n c] w fun x w' => x = rfP 1 ∧ w = w' := by
  have q := cmwithin lo hi a n c l w h; rw [hb] at q; exact q
set_option maxRecDepth 100000 in
set_option maxHeartbeats 8000000 in
theorem cmcheck0 (x : CmX) (w : World) (h : x.fit w) (b0 : allLH 0 7 [x.m.cl] = false) :
    Calls Try.prog 12 #[.agg x.cells.toArray] w fun e w' => e = .returned (.int .i64 x.m.err) ∧ Below w.heap.size w w' := by
  have HO := Lib.hid (show x.m.err = 1 by unfold Cm.err Cm.ok; rw [b0]; rfl)
  have Fcl := Lib.hid h.cl
  have Fkd := Lib.hid h.kd
  have Fsq := Lib.hid h.sq
  have Fid := Lib.hid h.id
  have Fep := Lib.hid h.ep
  have Fnu := Lib.hid h.nu
  have Fby := Lib.hid h.by'
  have Fti := Lib.hid h.ti
  have EZ := Lib.hid errno_zero
  have W0 := Lib.hid (cmw_no 0 7 [x.m.cl] b0)
  clear h b0
  have hmf : ∀ (fn : Fn) (first cap : Array Value) (w : World), (Instr.makeFunc fn first cap).run Try.prog w = .ok (.func fn first cap) w := fun _ _ _ _ => rfl
  go_enter_defers Try.func12, Try.ntmps12
  go_wp2_with (first
    | ((with_reducible refine box_row (o := ⟨some 1, _, _, _, _, _⟩) rfl _ _ rfl x.cells rfl ?_); intro w1 hr hb hz; have X1 := Lib.hid hr; have B1 := Lib.hid hb; have S1 := Lib.hid (show w.heap.size < w1.heap.size by omega); clear hr hb hz)
    | ((with_reducible refine alloc_cell (o := ⟨some 2, _, _, _, _, _⟩) rfl _ rfl (.int .i64 0) rfl EZ.out ?_); intro w2 hr hb hz; have E2 := Lib.hid hr; have X2 := Lib.hid (X1.out.below hb X1.out.lt); have B2 := Lib.hid (B1.out.trans (hb.mono B1.out.size)); have c0 := X2.out.cm.c0; clear hr hb hz)
    | ((with_reducible refine bi1 (o := ⟨some 6, _, _, _, _, _⟩) rfl _ rfl x.m.cl ?_ Fcl.out ?_); (focus (first | (go_simp; done) | (go_simp; rfl))); intro w3 hs hb hz; have S3 := Lib.hid hs; have E3 := Lib.hid (E2.out.below hb E2.out.lt); have X3 := Lib.hid (X2.out.below hb X2.out.lt); have B3 := Lib.hid (B2.out.trans (hb.mono B2.out.size)); have c2 := X3.out.cm.c2; clear hs hb hz)
    | (go_at_call 40; (with_reducible refine (W0.out _ _ _ _ S3.out).mono ?_); rintro e w' ⟨rfl, rfl⟩))
  refine leaves_cons (f := 38) (args := #[.pointer (some ⟨w1.heap.size, 0, none⟩)]) (by simp) (by simp [go_sem]) ?_
  refine (chk1_caught w1.heap.size 0 1 _ E3.out).mono ?_
  rintro e u' w'' ⟨rfl, rfl, hr, hb⟩
  have k0 := hr.k0
  have BF := Lib.hid (B3.out.trans (hb.mono B1.out.size))
  clear hr hb
  simp [Leaves, settle, results, Try.results12, go_sem, k0]
  exact ⟨by rw [HO.out], BF.out⟩
set_option maxRecDepth 100000 in
set_option maxHeartbeats 8000000 in
theorem cmcheck1 (x : CmX) (w : World) (h : x.fit w) (b0 : allLH 0 7 [x.m.cl] = true) (b1 : allLH 1 14 [x.m.kd] = false) :
    Calls Try.prog 12 #[.agg x.cells.toArray] w fun e w' => e = .returned (.int .i64 x.m.err) ∧ Below w.heap.size w w' := by
  have HO := Lib.hid (show x.m.err = 1 by unfold Cm.err Cm.ok; rw [b0, b1]; rfl)
  have Fcl := Lib.hid h.cl
  have Fkd := Lib.hid h.kd
  have Fsq := Lib.hid h.sq
  have Fid := Lib.hid h.id
  have Fep := Lib.hid h.ep
  have Fnu := Lib.hid h.nu
  have Fby := Lib.hid h.by'
  have Fti := Lib.hid h.ti
  have EZ := Lib.hid errno_zero
  have W0 := Lib.hid (cmw_ok 0 7 [x.m.cl] b0)
  have W1 := Lib.hid (cmw_no 1 14 [x.m.kd] b1)
  clear h b0 b1
  have hmf : ∀ (fn : Fn) (first cap : Array Value) (w : World), (Instr.makeFunc fn first cap).run Try.prog w = .ok (.func fn first cap) w := fun _ _ _ _ => rfl
  go_enter_defers Try.func12, Try.ntmps12
  go_wp2_with (first
    | ((with_reducible refine box_row (o := ⟨some 1, _, _, _, _, _⟩) rfl _ _ rfl x.cells rfl ?_); intro w1 hr hb hz; have X1 := Lib.hid hr; have B1 := Lib.hid hb; have S1 := Lib.hid (show w.heap.size < w1.heap.size by omega); clear hr hb hz)
    | ((with_reducible refine alloc_cell (o := ⟨some 2, _, _, _, _, _⟩) rfl _ rfl (.int .i64 0) rfl EZ.out ?_); intro w2 hr hb hz; have E2 := Lib.hid hr; have X2 := Lib.hid (X1.out.below hb X1.out.lt); have B2 := Lib.hid (B1.out.trans (hb.mono B1.out.size)); have c0 := X2.out.cm.c0; clear hr hb hz)
    | ((with_reducible refine bi1 (o := ⟨some 6, _, _, _, _, _⟩) rfl _ rfl x.m.cl ?_ Fcl.out ?_); (focus (first | (go_simp; done) | (go_simp; rfl))); intro w3 hs hb hz; have S3 := Lib.hid hs; have E3 := Lib.hid (E2.out.below hb E2.out.lt); have X3 := Lib.hid (X2.out.below hb X2.out.lt); have B3 := Lib.hid (B2.out.trans (hb.mono B2.out.size)); have c2 := X3.out.cm.c2; clear hs hb hz)
    | (go_at_call 40; (with_reducible refine (W0.out _ _ _ _ S3.out).mono ?_); rintro e w' ⟨rfl, rfl⟩)
    | ((with_reducible refine bi1 (o := ⟨some 10, _, _, _, _, _⟩) rfl _ rfl x.m.kd ?_ Fkd.out ?_); (focus (first | (go_simp; done) | (go_simp; rfl))); intro w4 hs hb hz; have S4 := Lib.hid hs; have E4 := Lib.hid (E3.out.below hb E3.out.lt); have X4 := Lib.hid (X3.out.below hb X3.out.lt); have B4 := Lib.hid (B3.out.trans (hb.mono B3.out.size)); have c1 := X4.out.cm.c1; have c3 := X4.out.cm.c3; clear hs hb hz)
    | (go_at_call 40; (with_reducible refine (W1.out _ _ _ _ S4.out).mono ?_); rintro e w' ⟨rfl, rfl⟩))
  refine leaves_cons (f := 38) (args := #[.pointer (some ⟨w1.heap.size, 0, none⟩)]) (by simp) (by simp [go_sem]) ?_
  refine (chk1_caught w1.heap.size 0 1 _ E4.out).mono ?_
  rintro e u' w'' ⟨rfl, rfl, hr, hb⟩
  have k0 := hr.k0
  have BF := Lib.hid (B4.out.trans (hb.mono B1.out.size))
  clear hr hb
  simp [Leaves, settle, results, Try.results12, go_sem, k0]
  exact ⟨by rw [HO.out], BF.out⟩
set_option maxRecDepth 100000 in
set_option maxHeartbeats 8000000 in
theorem cmcheck2 (x : CmX) (w : World) (h : x.fit w) (b0 : allLH 0 7 [x.m.cl] = true) (b1 : allLH 1 14 [x.m.kd] = true) (b2 : allLH 1 2147483648 [x.m.sq, x.m.id] = false) :
    Calls Try.prog 12 #[.agg x.cells.toArray] w fun e w' => e = .returned (.int .i64 x.m.err) ∧ Below w.heap.size w w' := by
  have HO := Lib.hid (show x.m.err = 1 by unfold Cm.err Cm.ok; rw [b0, b1, b2]; rfl)
  have Fcl := Lib.hid h.cl
  have Fkd := Lib.hid h.kd
  have Fsq := Lib.hid h.sq
  have Fid := Lib.hid h.id
  have Fep := Lib.hid h.ep
  have Fnu := Lib.hid h.nu
  have Fby := Lib.hid h.by'
  have Fti := Lib.hid h.ti
  have EZ := Lib.hid errno_zero
  have W0 := Lib.hid (cmw_ok 0 7 [x.m.cl] b0)
  have W1 := Lib.hid (cmw_ok 1 14 [x.m.kd] b1)
  have W2 := Lib.hid (cmw_no 1 2147483648 [x.m.sq, x.m.id] b2)
  clear h b0 b1 b2
  have hmf : ∀ (fn : Fn) (first cap : Array Value) (w : World), (Instr.makeFunc fn first cap).run Try.prog w = .ok (.func fn first cap) w := fun _ _ _ _ => rfl
  go_enter_defers Try.func12, Try.ntmps12
  go_wp2_with (first
    | ((with_reducible refine box_row (o := ⟨some 1, _, _, _, _, _⟩) rfl _ _ rfl x.cells rfl ?_); intro w1 hr hb hz; have X1 := Lib.hid hr; have B1 := Lib.hid hb; have S1 := Lib.hid (show w.heap.size < w1.heap.size by omega); clear hr hb hz)
    | ((with_reducible refine alloc_cell (o := ⟨some 2, _, _, _, _, _⟩) rfl _ rfl (.int .i64 0) rfl EZ.out ?_); intro w2 hr hb hz; have E2 := Lib.hid hr; have X2 := Lib.hid (X1.out.below hb X1.out.lt); have B2 := Lib.hid (B1.out.trans (hb.mono B1.out.size)); have c0 := X2.out.cm.c0; clear hr hb hz)
    | ((with_reducible refine bi1 (o := ⟨some 6, _, _, _, _, _⟩) rfl _ rfl x.m.cl ?_ Fcl.out ?_); (focus (first | (go_simp; done) | (go_simp; rfl))); intro w3 hs hb hz; have S3 := Lib.hid hs; have E3 := Lib.hid (E2.out.below hb E2.out.lt); have X3 := Lib.hid (X2.out.below hb X2.out.lt); have B3 := Lib.hid (B2.out.trans (hb.mono B2.out.size)); have c2 := X3.out.cm.c2; clear hs hb hz)
    | (go_at_call 40; (with_reducible refine (W0.out _ _ _ _ S3.out).mono ?_); rintro e w' ⟨rfl, rfl⟩)
    | ((with_reducible refine bi1 (o := ⟨some 10, _, _, _, _, _⟩) rfl _ rfl x.m.kd ?_ Fkd.out ?_); (focus (first | (go_simp; done) | (go_simp; rfl))); intro w4 hs hb hz; have S4 := Lib.hid hs; have E4 := Lib.hid (E3.out.below hb E3.out.lt); have X4 := Lib.hid (X3.out.below hb X3.out.lt); have B4 := Lib.hid (B3.out.trans (hb.mono B3.out.size)); have c1 := X4.out.cm.c1; have c3 := X4.out.cm.c3; clear hs hb hz)
    | (go_at_call 40; (with_reducible refine (W1.out _ _ _ _ S4.out).mono ?_); rintro e w' ⟨rfl, rfl⟩)
    | ((with_reducible refine bi2 (o := ⟨some 16, _, _, _, _, _⟩) rfl _ _ rfl x.m.sq x.m.id ?_ ?_ Fsq.out Fid.out ?_); (focus (first | (go_simp; done) | (go_simp; rfl))); (focus (first | (go_simp; done) | (go_simp; rfl))); intro w5 hs hb hz; have S5 := Lib.hid hs; have E5 := Lib.hid (E4.out.below hb E4.out.lt); have X5 := Lib.hid (X4.out.below hb X4.out.lt); have B5 := Lib.hid (B4.out.trans (hb.mono B4.out.size)); have c4 := X5.out.cm.c4; have c8 := X5.out.cm.c8; clear hs hb hz)
    | (go_at_call 40; (with_reducible refine (W2.out _ _ _ _ S5.out).mono ?_); rintro e w' ⟨rfl, rfl⟩))
  refine leaves_cons (f := 38) (args := #[.pointer (some ⟨w1.heap.size, 0, none⟩)]) (by simp) (by simp [go_sem]) ?_
  refine (chk1_caught w1.heap.size 0 1 _ E5.out).mono ?_
  rintro e u' w'' ⟨rfl, rfl, hr, hb⟩
  have k0 := hr.k0
  have BF := Lib.hid (B5.out.trans (hb.mono B1.out.size))
  clear hr hb
  simp [Leaves, settle, results, Try.results12, go_sem, k0]
  exact ⟨by rw [HO.out], BF.out⟩
set_option maxRecDepth 100000 in
set_option maxHeartbeats 8000000 in
theorem cmcheck3 (x : CmX) (w : World) (h : x.fit w) (b0 : allLH 0 7 [x.m.cl] = true) (b1 : allLH 1 14 [x.m.kd] = true) (b2 : allLH 1 2147483648 [x.m.sq, x.m.id] = true) (b3 : allLH 0 2147483648 [x.m.ep, x.m.nu] = false) :
    Calls Try.prog 12 #[.agg x.cells.toArray] w fun e w' => e = .returned (.int .i64 x.m.err) ∧ Below w.heap.size w w' := by
  have HO := Lib.hid (show x.m.err = 1 by unfold Cm.err Cm.ok; rw [b0, b1, b2, b3]; rfl)
  have Fcl := Lib.hid h.cl
  have Fkd := Lib.hid h.kd
  have Fsq := Lib.hid h.sq
  have Fid := Lib.hid h.id
  have Fep := Lib.hid h.ep
  have Fnu := Lib.hid h.nu
  have Fby := Lib.hid h.by'
  have Fti := Lib.hid h.ti
  have EZ := Lib.hid errno_zero
  have W0 := Lib.hid (cmw_ok 0 7 [x.m.cl] b0)
  have W1 := Lib.hid (cmw_ok 1 14 [x.m.kd] b1)
  have W2 := Lib.hid (cmw_ok 1 2147483648 [x.m.sq, x.m.id] b2)
  have W3 := Lib.hid (cmw_no 0 2147483648 [x.m.ep, x.m.nu] b3)
  clear h b0 b1 b2 b3
  have hmf : ∀ (fn : Fn) (first cap : Array Value) (w : World), (Instr.makeFunc fn first cap).run Try.prog w = .ok (.func fn first cap) w := fun _ _ _ _ => rfl
  go_enter_defers Try.func12, Try.ntmps12
  go_wp2_with (first
    | ((with_reducible refine box_row (o := ⟨some 1, _, _, _, _, _⟩) rfl _ _ rfl x.cells rfl ?_); intro w1 hr hb hz; have X1 := Lib.hid hr; have B1 := Lib.hid hb; have S1 := Lib.hid (show w.heap.size < w1.heap.size by omega); clear hr hb hz)
    | ((with_reducible refine alloc_cell (o := ⟨some 2, _, _, _, _, _⟩) rfl _ rfl (.int .i64 0) rfl EZ.out ?_); intro w2 hr hb hz; have E2 := Lib.hid hr; have X2 := Lib.hid (X1.out.below hb X1.out.lt); have B2 := Lib.hid (B1.out.trans (hb.mono B1.out.size)); have c0 := X2.out.cm.c0; clear hr hb hz)
    | ((with_reducible refine bi1 (o := ⟨some 6, _, _, _, _, _⟩) rfl _ rfl x.m.cl ?_ Fcl.out ?_); (focus (first | (go_simp; done) | (go_simp; rfl))); intro w3 hs hb hz; have S3 := Lib.hid hs; have E3 := Lib.hid (E2.out.below hb E2.out.lt); have X3 := Lib.hid (X2.out.below hb X2.out.lt); have B3 := Lib.hid (B2.out.trans (hb.mono B2.out.size)); have c2 := X3.out.cm.c2; clear hs hb hz)
    | (go_at_call 40; (with_reducible refine (W0.out _ _ _ _ S3.out).mono ?_); rintro e w' ⟨rfl, rfl⟩)
    | ((with_reducible refine bi1 (o := ⟨some 10, _, _, _, _, _⟩) rfl _ rfl x.m.kd ?_ Fkd.out ?_); (focus (first | (go_simp; done) | (go_simp; rfl))); intro w4 hs hb hz; have S4 := Lib.hid hs; have E4 := Lib.hid (E3.out.below hb E3.out.lt); have X4 := Lib.hid (X3.out.below hb X3.out.lt); have B4 := Lib.hid (B3.out.trans (hb.mono B3.out.size)); have c1 := X4.out.cm.c1; have c3 := X4.out.cm.c3; clear hs hb hz)
    | (go_at_call 40; (with_reducible refine (W1.out _ _ _ _ S4.out).mono ?_); rintro e w' ⟨rfl, rfl⟩)
    | ((with_reducible refine bi2 (o := ⟨some 16, _, _, _, _, _⟩) rfl _ _ rfl x.m.sq x.m.id ?_ ?_ Fsq.out Fid.out ?_); (focus (first | (go_simp; done) | (go_simp; rfl))); (focus (first | (go_simp; done) | (go_simp; rfl))); intro w5 hs hb hz; have S5 := Lib.hid hs; have E5 := Lib.hid (E4.out.below hb E4.out.lt); have X5 := Lib.hid (X4.out.below hb X4.out.lt); have B5 := Lib.hid (B4.out.trans (hb.mono B4.out.size)); have c4 := X5.out.cm.c4; have c8 := X5.out.cm.c8; clear hs hb hz)
    | (go_at_call 40; (with_reducible refine (W2.out _ _ _ _ S5.out).mono ?_); rintro e w' ⟨rfl, rfl⟩)
    | ((with_reducible refine bi2 (o := ⟨some 22, _, _, _, _, _⟩) rfl _ _ rfl x.m.ep x.m.nu ?_ ?_ Fep.out Fnu.out ?_); (focus (first | (go_simp; done) | (go_simp; rfl))); (focus (first | (go_simp; done) | (go_simp; rfl))); intro w6 hs hb hz; have S6 := Lib.hid hs; have E6 := Lib.hid (E5.out.below hb E5.out.lt); have X6 := Lib.hid (X5.out.below hb X5.out.lt); have B6 := Lib.hid (B5.out.trans (hb.mono B5.out.size)); have c9 := X6.out.cm.c9; clear hs hb hz)
    | (go_at_call 40; (with_reducible refine (W3.out _ _ _ _ S6.out).mono ?_); rintro e w' ⟨rfl, rfl⟩))
  refine leaves_cons (f := 38) (args := #[.pointer (some ⟨w1.heap.size, 0, none⟩)]) (by simp) (by simp [go_sem]) ?_
  refine (chk1_caught w1.heap.size 0 1 _ E6.out).mono ?_
  rintro e u' w'' ⟨rfl, rfl, hr, hb⟩
  have k0 := hr.k0
  have BF := Lib.hid (B6.out.trans (hb.mono B1.out.size))
  clear hr hb
  simp [Leaves, settle, results, Try.results12, go_sem, k0]
  exact ⟨by rw [HO.out], BF.out⟩
set_option maxRecDepth 100000 in
set_option maxHeartbeats 8000000 in
theorem cmcheck4 (x : CmX) (w : World) (h : x.fit w) (b0 : allLH 0 7 [x.m.cl] = true) (b1 : allLH 1 14 [x.m.kd] = true) (b2 : allLH 1 2147483648 [x.m.sq, x.m.id] = true) (b3 : allLH 0 2147483648 [x.m.ep, x.m.nu] = true) (b4 : allLH 0 1099511627776 [x.m.by'] = false) :
    Calls Try.prog 12 #[.agg x.cells.toArray] w fun e w' => e = .returned (.int .i64 x.m.err) ∧ Below w.heap.size w w' := by
  have HO := Lib.hid (show x.m.err = 1 by unfold Cm.err Cm.ok; rw [b0, b1, b2, b3, b4]; rfl)
  have Fcl := Lib.hid h.cl
  have Fkd := Lib.hid h.kd
  have Fsq := Lib.hid h.sq
  have Fid := Lib.hid h.id
  have Fep := Lib.hid h.ep
  have Fnu := Lib.hid h.nu
  have Fby := Lib.hid h.by'
  have Fti := Lib.hid h.ti
  have EZ := Lib.hid errno_zero
  have W0 := Lib.hid (cmw_ok 0 7 [x.m.cl] b0)
  have W1 := Lib.hid (cmw_ok 1 14 [x.m.kd] b1)
  have W2 := Lib.hid (cmw_ok 1 2147483648 [x.m.sq, x.m.id] b2)
  have W3 := Lib.hid (cmw_ok 0 2147483648 [x.m.ep, x.m.nu] b3)
  have W4 := Lib.hid (cmw_no 0 1099511627776 [x.m.by'] b4)
  clear h b0 b1 b2 b3 b4
  have hmf : ∀ (fn : Fn) (first cap : Array Value) (w : World), (Instr.makeFunc fn first cap).run Try.prog w = .ok (.func fn first cap) w := fun _ _ _ _ => rfl
  go_enter_defers Try.func12, Try.ntmps12
  go_wp2_with (first
    | ((with_reducible refine box_row (o := ⟨some 1, _, _, _, _, _⟩) rfl _ _ rfl x.cells rfl ?_); intro w1 hr hb hz; have X1 := Lib.hid hr; have B1 := Lib.hid hb; have S1 := Lib.hid (show w.heap.size < w1.heap.size by omega); clear hr hb hz)
    | ((with_reducible refine alloc_cell (o := ⟨some 2, _, _, _, _, _⟩) rfl _ rfl (.int .i64 0) rfl EZ.out ?_); intro w2 hr hb hz; have E2 := Lib.hid hr; have X2 := Lib.hid (X1.out.below hb X1.out.lt); have B2 := Lib.hid (B1.out.trans (hb.mono B1.out.size)); have c0 := X2.out.cm.c0; clear hr hb hz)
    | ((with_reducible refine bi1 (o := ⟨some 6, _, _, _, _, _⟩) rfl _ rfl x.m.cl ?_ Fcl.out ?_); (focus (first | (go_simp; done) | (go_simp; rfl))); intro w3 hs hb hz; have S3 := Lib.hid hs; have E3 := Lib.hid (E2.out.below hb E2.out.lt); have X3 := Lib.hid (X2.out.below hb X2.out.lt); have B3 := Lib.hid (B2.out.trans (hb.mono B2.out.size)); have c2 := X3.out.cm.c2; clear hs hb hz)
    | (go_at_call 40; (with_reducible refine (W0.out _ _ _ _ S3.out).mono ?_); rintro e w' ⟨rfl, rfl⟩)
    | ((with_reducible refine bi1 (o := ⟨some 10, _, _, _, _, _⟩) rfl _ rfl x.m.kd ?_ Fkd.out ?_); (focus (first | (go_simp; done) | (go_simp; rfl))); intro w4 hs hb hz; have S4 := Lib.hid hs; have E4 := Lib.hid (E3.out.below hb E3.out.lt); have X4 := Lib.hid (X3.out.below hb X3.out.lt); have B4 := Lib.hid (B3.out.trans (hb.mono B3.out.size)); have c1 := X4.out.cm.c1; have c3 := X4.out.cm.c3; clear hs hb hz)
    | (go_at_call 40; (with_reducible refine (W1.out _ _ _ _ S4.out).mono ?_); rintro e w' ⟨rfl, rfl⟩)
    | ((with_reducible refine bi2 (o := ⟨some 16, _, _, _, _, _⟩) rfl _ _ rfl x.m.sq x.m.id ?_ ?_ Fsq.out Fid.out ?_); (focus (first | (go_simp; done) | (go_simp; rfl))); (focus (first | (go_simp; done) | (go_simp; rfl))); intro w5 hs hb hz; have S5 := Lib.hid hs; have E5 := Lib.hid (E4.out.below hb E4.out.lt); have X5 := Lib.hid (X4.out.below hb X4.out.lt); have B5 := Lib.hid (B4.out.trans (hb.mono B4.out.size)); have c4 := X5.out.cm.c4; have c8 := X5.out.cm.c8; clear hs hb hz)
    | (go_at_call 40; (with_reducible refine (W2.out _ _ _ _ S5.out).mono ?_); rintro e w' ⟨rfl, rfl⟩)
    | ((with_reducible refine bi2 (o := ⟨some 22, _, _, _, _, _⟩) rfl _ _ rfl x.m.ep x.m.nu ?_ ?_ Fep.out Fnu.out ?_); (focus (first | (go_simp; done) | (go_simp; rfl))); (focus (first | (go_simp; done) | (go_simp; rfl))); intro w6 hs hb hz; have S6 := Lib.hid hs; have E6 := Lib.hid (E5.out.below hb E5.out.lt); have X6 := Lib.hid (X5.out.below hb X5.out.lt); have B6 := Lib.hid (B5.out.trans (hb.mono B5.out.size)); have c9 := X6.out.cm.c9; clear hs hb hz)
    | (go_at_call 40; (with_reducible refine (W3.out _ _ _ _ S6.out).mono ?_); rintro e w' ⟨rfl, rfl⟩)
    | ((with_reducible refine bi1 (o := ⟨some 26, _, _, _, _, _⟩) rfl _ rfl x.m.by' ?_ Fby.out ?_); (focus (first | (go_simp; done) | (go_simp; rfl))); intro w7 hs hb hz; have S7 := Lib.hid hs; have E7 := Lib.hid (E6.out.below hb E6.out.lt); have X7 := Lib.hid (X6.out.below hb X6.out.lt); have B7 := Lib.hid (B6.out.trans (hb.mono B6.out.size)); have c10 := X7.out.cm.c10; clear hs hb hz)
    | (go_at_call 40; (with_reducible refine (W4.out _ _ _ _ S7.out).mono ?_); rintro e w' ⟨rfl, rfl⟩))
  refine leaves_cons (f := 38) (args := #[.pointer (some ⟨w1.heap.size, 0, none⟩)]) (by simp) (by simp [go_sem]) ?_
  refine (chk1_caught w1.heap.size 0 1 _ E7.out).mono ?_
  rintro e u' w'' ⟨rfl, rfl, hr, hb⟩
  have k0 := hr.k0
  have BF := Lib.hid (B7.out.trans (hb.mono B1.out.size))
  clear hr hb
  simp [Leaves, settle, results, Try.results12, go_sem, k0]
  exact ⟨by rw [HO.out], BF.out⟩
set_option maxRecDepth 100000 in
set_option maxHeartbeats 8000000 in
theorem cmcheck5 (x : CmX) (w : World) (h : x.fit w) (b0 : allLH 0 7 [x.m.cl] = true) (b1 : allLH 1 14 [x.m.kd] = true) (b2 : allLH 1 2147483648 [x.m.sq, x.m.id] = true) (b3 : allLH 0 2147483648 [x.m.ep, x.m.nu] = true) (b4 : allLH 0 1099511627776 [x.m.by'] = true) (b5 : allLH 0 1099511627776 [x.m.ti] = false) :
    Calls Try.prog 12 #[.agg x.cells.toArray] w fun e w' => e = .returned (.int .i64 x.m.err) ∧ Below w.heap.size w w' := by
  have HO := Lib.hid (show x.m.err = 1 by unfold Cm.err Cm.ok; rw [b0, b1, b2, b3, b4, b5]; rfl)
  have Fcl := Lib.hid h.cl
  have Fkd := Lib.hid h.kd
  have Fsq := Lib.hid h.sq
  have Fid := Lib.hid h.id
  have Fep := Lib.hid h.ep
  have Fnu := Lib.hid h.nu
  have Fby := Lib.hid h.by'
  have Fti := Lib.hid h.ti
  have EZ := Lib.hid errno_zero
  have W0 := Lib.hid (cmw_ok 0 7 [x.m.cl] b0)
  have W1 := Lib.hid (cmw_ok 1 14 [x.m.kd] b1)
  have W2 := Lib.hid (cmw_ok 1 2147483648 [x.m.sq, x.m.id] b2)
  have W3 := Lib.hid (cmw_ok 0 2147483648 [x.m.ep, x.m.nu] b3)
  have W4 := Lib.hid (cmw_ok 0 1099511627776 [x.m.by'] b4)
  have W5 := Lib.hid (cmw_no 0 1099511627776 [x.m.ti] b5)
  clear h b0 b1 b2 b3 b4 b5
  have hmf : ∀ (fn : Fn) (first cap : Array Value) (w : World), (Instr.makeFunc fn first cap).run Try.prog w = .ok (.func fn first cap) w := fun _ _ _ _ => rfl
  go_enter_defers Try.func12, Try.ntmps12
  go_wp2_with (first
    | ((with_reducible refine box_row (o := ⟨some 1, _, _, _, _, _⟩) rfl _ _ rfl x.cells rfl ?_); intro w1 hr hb hz; have X1 := Lib.hid hr; have B1 := Lib.hid hb; have S1 := Lib.hid (show w.heap.size < w1.heap.size by omega); clear hr hb hz)
    | ((with_reducible refine alloc_cell (o := ⟨some 2, _, _, _, _, _⟩) rfl _ rfl (.int .i64 0) rfl EZ.out ?_); intro w2 hr hb hz; have E2 := Lib.hid hr; have X2 := Lib.hid (X1.out.below hb X1.out.lt); have B2 := Lib.hid (B1.out.trans (hb.mono B1.out.size)); have c0 := X2.out.cm.c0; clear hr hb hz)
    | ((with_reducible refine bi1 (o := ⟨some 6, _, _, _, _, _⟩) rfl _ rfl x.m.cl ?_ Fcl.out ?_); (focus (first | (go_simp; done) | (go_simp; rfl))); intro w3 hs hb hz; have S3 := Lib.hid hs; have E3 := Lib.hid (E2.out.below hb E2.out.lt); have X3 := Lib.hid (X2.out.below hb X2.out.lt); have B3 := Lib.hid (B2.out.trans (hb.mono B2.out.size)); have c2 := X3.out.cm.c2; clear hs hb hz)
    | (go_at_call 40; (with_reducible refine (W0.out _ _ _ _ S3.out).mono ?_); rintro e w' ⟨rfl, rfl⟩)
    | ((with_reducible refine bi1 (o := ⟨some 10, _, _, _, _, _⟩) rfl _ rfl x.m.kd ?_ Fkd.out ?_); (focus (first | (go_simp; done) | (go_simp; rfl))); intro w4 hs hb hz; have S4 := Lib.hid hs; have E4 := Lib.hid (E3.out.below hb E3.out.lt); have X4 := Lib.hid (X3.out.below hb X3.out.lt); have B4 := Lib.hid (B3.out.trans (hb.mono B3.out.size)); have c1 := X4.out.cm.c1; have c3 := X4.out.cm.c3; clear hs hb hz)
    | (go_at_call 40; (with_reducible refine (W1.out _ _ _ _ S4.out).mono ?_); rintro e w' ⟨rfl, rfl⟩)
    | ((with_reducible refine bi2 (o := ⟨some 16, _, _, _, _, _⟩) rfl _ _ rfl x.m.sq x.m.id ?_ ?_ Fsq.out Fid.out ?_); (focus (first | (go_simp; done) | (go_simp; rfl))); (focus (first | (go_simp; done) | (go_simp; rfl))); intro w5 hs hb hz; have S5 := Lib.hid hs; have E5 := Lib.hid (E4.out.below hb E4.out.lt); have X5 := Lib.hid (X4.out.below hb X4.out.lt); have B5 := Lib.hid (B4.out.trans (hb.mono B4.out.size)); have c4 := X5.out.cm.c4; have c8 := X5.out.cm.c8; clear hs hb hz)
    | (go_at_call 40; (with_reducible refine (W2.out _ _ _ _ S5.out).mono ?_); rintro e w' ⟨rfl, rfl⟩)
    | ((with_reducible refine bi2 (o := ⟨some 22, _, _, _, _, _⟩) rfl _ _ rfl x.m.ep x.m.nu ?_ ?_ Fep.out Fnu.out ?_); (focus (first | (go_simp; done) | (go_simp; rfl))); (focus (first | (go_simp; done) | (go_simp; rfl))); intro w6 hs hb hz; have S6 := Lib.hid hs; have E6 := Lib.hid (E5.out.below hb E5.out.lt); have X6 := Lib.hid (X5.out.below hb X5.out.lt); have B6 := Lib.hid (B5.out.trans (hb.mono B5.out.size)); have c9 := X6.out.cm.c9; clear hs hb hz)
    | (go_at_call 40; (with_reducible refine (W3.out _ _ _ _ S6.out).mono ?_); rintro e w' ⟨rfl, rfl⟩)
    | ((with_reducible refine bi1 (o := ⟨some 26, _, _, _, _, _⟩) rfl _ rfl x.m.by' ?_ Fby.out ?_); (focus (first | (go_simp; done) | (go_simp; rfl))); intro w7 hs hb hz; have S7 := Lib.hid hs; have E7 := Lib.hid (E6.out.below hb E6.out.lt); have X7 := Lib.hid (X6.out.below hb X6.out.lt); have B7 := Lib.hid (B6.out.trans (hb.mono B6.out.size)); have c10 := X7.out.cm.c10; clear hs hb hz)
    | (go_at_call 40; (with_reducible refine (W4.out _ _ _ _ S7.out).mono ?_); rintro e w' ⟨rfl, rfl⟩)
    | ((with_reducible refine bi1 (o := ⟨some 30, _, _, _, _, _⟩) rfl _ rfl x.m.ti ?_ Fti.out ?_); (focus (first | (go_simp; done) | (go_simp; rfl))); intro w8 hs hb hz; have S8 := Lib.hid hs; have E8 := Lib.hid (E7.out.below hb E7.out.lt); have X8 := Lib.hid (X7.out.below hb X7.out.lt); have B8 := Lib.hid (B7.out.trans (hb.mono B7.out.size)); have c5 := X8.out.cm.c5; clear hs hb hz)
    | (go_at_call 40; (with_reducible refine (W5.out _ _ _ _ S8.out).mono ?_); rintro e w' ⟨rfl, rfl⟩))
  refine leaves_cons (f := 38) (args := #[.pointer (some ⟨w1.heap.size, 0, none⟩)]) (by simp) (by simp [go_sem]) ?_
  refine (chk1_caught w1.heap.size 0 1 _ E8.out).mono ?_
  rintro e u' w'' ⟨rfl, rfl, hr, hb⟩
  have k0 := hr.k0
  have BF := Lib.hid (B8.out.trans (hb.mono B1.out.size))
  clear hr hb
  simp [Leaves, settle, results, Try.results12, go_sem, k0]
  exact ⟨by rw [HO.out], BF.out⟩
set_option maxRecDepth 100000 in
set_option maxHeartbeats 8000000 in
theorem cmcheck6 (x : CmX) (w : World) (h : x.fit w) (b0 : allLH 0 7 [x.m.cl] = true) (b1 : allLH 1 14 [x.m.kd] = true) (b2 : allLH 1 2147483648 [x.m.sq, x.m.id] = true) (b3 : allLH 0 2147483648 [x.m.ep, x.m.nu] = true) (b4 : allLH 0 1099511627776 [x.m.by'] = true) (b5 : allLH 0 1099511627776 [x.m.ti] = true) (b6 : cavsV x.m.V = false) :
    Calls Try.prog 12 #[.agg x.cells.toArray] w fun e w' => e = .returned (.int .i64 x.m.err) ∧ Below w.heap.size w w' := by
  have HO := Lib.hid (show x.m.err = 1 by unfold Cm.err Cm.ok; rw [b0, b1, b2, b3, b4, b5, b6]; rfl)
  have Fcl := Lib.hid h.cl
  have Fkd := Lib.hid h.kd
  have Fsq := Lib.hid h.sq
  have Fid := Lib.hid h.id
  have Fep := Lib.hid h.ep
  have Fnu := Lib.hid h.nu
  have Fby := Lib.hid h.by'
  have Fti := Lib.hid h.ti
  have EZ := Lib.hid errno_zero
  have W0 := Lib.hid (cmw_ok 0 7 [x.m.cl] b0)
  have W1 := Lib.hid (cmw_ok 1 14 [x.m.kd] b1)
  have W2 := Lib.hid (cmw_ok 1 2147483648 [x.m.sq, x.m.id] b2)
  have W3 := Lib.hid (cmw_ok 0 2147483648 [x.m.ep, x.m.nu] b3)
  have W4 := Lib.hid (cmw_ok 0 1099511627776 [x.m.by'] b4)
  have W5 := Lib.hid (cmw_ok 0 1099511627776 [x.m.ti] b5)
  have W6 := Lib.hid (fun w' (hb : Below w.heap.size w w') => (by have q := cmcaveats x.va x.vn x.vc x.m.V w' (h.V.mono hb); rw [b6] at q; exact q : Calls Try.prog 41 #[.slice x.va x.vn x.vc] w' fun e w'' => e = rfP 1 ∧ Below w'.heap.size w' w''))
  clear h b0 b1 b2 b3 b4 b5 b6
  have hmf : ∀ (fn : Fn) (first cap : Array Value) (w : World), (Instr.makeFunc fn first cap).run Try.prog w = .ok (.func fn first cap) w := fun _ _ _ _ => rfl
  go_enter_defers Try.func12, Try.ntmps12
  go_wp2_with (first
    | ((with_reducible refine box_row (o := ⟨some 1, _, _, _, _, _⟩) rfl _ _ rfl x.cells rfl ?_); intro w1 hr hb hz; have X1 := Lib.hid hr; have B1 := Lib.hid hb; have S1 := Lib.hid (show w.heap.size < w1.heap.size by omega); clear hr hb hz)
    | ((with_reducible refine alloc_cell (o := ⟨some 2, _, _, _, _, _⟩) rfl _ rfl (.int .i64 0) rfl EZ.out ?_); intro w2 hr hb hz; have E2 := Lib.hid hr; have X2 := Lib.hid (X1.out.below hb X1.out.lt); have B2 := Lib.hid (B1.out.trans (hb.mono B1.out.size)); have c0 := X2.out.cm.c0; clear hr hb hz)
    | ((with_reducible refine bi1 (o := ⟨some 6, _, _, _, _, _⟩) rfl _ rfl x.m.cl ?_ Fcl.out ?_); (focus (first | (go_simp; done) | (go_simp; rfl))); intro w3 hs hb hz; have S3 := Lib.hid hs; have E3 := Lib.hid (E2.out.below hb E2.out.lt); have X3 := Lib.hid (X2.out.below hb X2.out.lt); have B3 := Lib.hid (B2.out.trans (hb.mono B2.out.size)); have c2 := X3.out.cm.c2; clear hs hb hz)
    | (go_at_call 40; (with_reducible refine (W0.out _ _ _ _ S3.out).mono ?_); rintro e w' ⟨rfl, rfl⟩)
    | ((with_reducible refine bi1 (o := ⟨some 10, _, _, _, _, _⟩) rfl _ rfl x.m.kd ?_ Fkd.out ?_); (focus (first | (go_simp; done) | (go_simp; rfl))); intro w4 hs hb hz; have S4 := Lib.hid hs; have E4 := Lib.hid (E3.out.below hb E3.out.lt); have X4 := Lib.hid (X3.out.below hb X3.out.lt); have B4 := Lib.hid (B3.out.trans (hb.mono B3.out.size)); have c1 := X4.out.cm.c1; have c3 := X4.out.cm.c3; clear hs hb hz)
    | (go_at_call 40; (with_reducible refine (W1.out _ _ _ _ S4.out).mono ?_); rintro e w' ⟨rfl, rfl⟩)
    | ((with_reducible refine bi2 (o := ⟨some 16, _, _, _, _, _⟩) rfl _ _ rfl x.m.sq x.m.id ?_ ?_ Fsq.out Fid.out ?_); (focus (first | (go_simp; done) | (go_simp; rfl))); (focus (first | (go_simp; done) | (go_simp; rfl))); intro w5 hs hb hz; have S5 := Lib.hid hs; have E5 := Lib.hid (E4.out.below hb E4.out.lt); have X5 := Lib.hid (X4.out.below hb X4.out.lt); have B5 := Lib.hid (B4.out.trans (hb.mono B4.out.size)); have c4 := X5.out.cm.c4; have c8 := X5.out.cm.c8; clear hs hb hz)
    | (go_at_call 40; (with_reducible refine (W2.out _ _ _ _ S5.out).mono ?_); rintro e w' ⟨rfl, rfl⟩)
    | ((with_reducible refine bi2 (o := ⟨some 22, _, _, _, _, _⟩) rfl _ _ rfl x.m.ep x.m.nu ?_ ?_ Fep.out Fnu.out ?_); (focus (first | (go_simp; done) | (go_simp; rfl))); (focus (first | (go_simp; done) | (go_simp; rfl))); intro w6 hs hb hz; have S6 := Lib.hid hs; have E6 := Lib.hid (E5.out.below hb E5.out.lt); have X6 := Lib.hid (X5.out.below hb X5.out.lt); have B6 := Lib.hid (B5.out.trans (hb.mono B5.out.size)); have c9 := X6.out.cm.c9; clear hs hb hz)
    | (go_at_call 40; (with_reducible refine (W3.out _ _ _ _ S6.out).mono ?_); rintro e w' ⟨rfl, rfl⟩)
    | ((with_reducible refine bi1 (o := ⟨some 26, _, _, _, _, _⟩) rfl _ rfl x.m.by' ?_ Fby.out ?_); (focus (first | (go_simp; done) | (go_simp; rfl))); intro w7 hs hb hz; have S7 := Lib.hid hs; have E7 := Lib.hid (E6.out.below hb E6.out.lt); have X7 := Lib.hid (X6.out.below hb X6.out.lt); have B7 := Lib.hid (B6.out.trans (hb.mono B6.out.size)); have c10 := X7.out.cm.c10; clear hs hb hz)
    | (go_at_call 40; (with_reducible refine (W4.out _ _ _ _ S7.out).mono ?_); rintro e w' ⟨rfl, rfl⟩)
    | ((with_reducible refine bi1 (o := ⟨some 30, _, _, _, _, _⟩) rfl _ rfl x.m.ti ?_ Fti.out ?_); (focus (first | (go_simp; done) | (go_simp; rfl))); intro w8 hs hb hz; have S8 := Lib.hid hs; have E8 := Lib.hid (E7.out.below hb E7.out.lt); have X8 := Lib.hid (X7.out.below hb X7.out.lt); have B8 := Lib.hid (B7.out.trans (hb.mono B7.out.size)); have c5 := X8.out.cm.c5; clear hs hb hz)
    | (go_at_call 40; (with_reducible refine (W5.out _ _ _ _ S8.out).mono ?_); rintro e w' ⟨rfl, rfl⟩)
    | (go_at_call 41; (with_reducible refine (W6.out w8 B8.out).mono ?_); rintro e w9 ⟨rfl, hb⟩; have E9 := Lib.hid (E8.out.below hb E8.out.lt); have X9 := Lib.hid (X8.out.below hb X8.out.lt); have B9 := Lib.hid (B8.out.trans (hb.mono B8.out.size)); have c6 := X9.out.cm.c6; have c7 := X9.out.cm.c7; clear hb))
  refine leaves_cons (f := 38) (args := #[.pointer (some ⟨w1.heap.size, 0, none⟩)]) (by simp) (by simp [go_sem]) ?_
  refine (chk1_caught w1.heap.size 0 1 _ E9.out).mono ?_
  rintro e u' w'' ⟨rfl, rfl, hr, hb⟩
  have k0 := hr.k0
  have BF := Lib.hid (B9.out.trans (hb.mono B1.out.size))
  clear hr hb
  simp [Leaves, settle, results, Try.results12, go_sem, k0]
  exact ⟨by rw [HO.out], BF.out⟩
set_option maxRecDepth 100000 in
set_option maxHeartbeats 8000000 in
theorem cmcheck7 (x : CmX) (w : World) (h : x.fit w) (b0 : allLH 0 7 [x.m.cl] = true) (b1 : allLH 1 14 [x.m.kd] = true) (b2 : allLH 1 2147483648 [x.m.sq, x.m.id] = true) (b3 : allLH 0 2147483648 [x.m.ep, x.m.nu] = true) (b4 : allLH 0 1099511627776 [x.m.by'] = true) (b5 : allLH 0 1099511627776 [x.m.ti] = true) (b6 : cavsV x.m.V = true) (b7 : [x.m.sp, x.m.nm].all txtV = false) :
    Calls Try.prog 12 #[.agg x.cells.toArray] w fun e w' => e = .returned (.int .i64 x.m.err) ∧ Below w.heap.size w w' := by
  have HO := Lib.hid (show x.m.err = 1 by unfold Cm.err Cm.ok; rw [b0, b1, b2, b3, b4, b5, b6, b7]; rfl)
  have Fcl := Lib.hid h.cl
  have Fkd := Lib.hid h.kd
  have Fsq := Lib.hid h.sq
  have Fid := Lib.hid h.id
  have Fep := Lib.hid h.ep
  have Fnu := Lib.hid h.nu
  have Fby := Lib.hid h.by'
  have Fti := Lib.hid h.ti
  have EZ := Lib.hid errno_zero
  have W0 := Lib.hid (cmw_ok 0 7 [x.m.cl] b0)
  have W1 := Lib.hid (cmw_ok 1 14 [x.m.kd] b1)
  have W2 := Lib.hid (cmw_ok 1 2147483648 [x.m.sq, x.m.id] b2)
  have W3 := Lib.hid (cmw_ok 0 2147483648 [x.m.ep, x.m.nu] b3)
  have W4 := Lib.hid (cmw_ok 0 1099511627776 [x.m.by'] b4)
  have W5 := Lib.hid (cmw_ok 0 1099511627776 [x.m.ti] b5)
  have W6 := Lib.hid (fun w' (hb : Below w.heap.size w w') => (by have q := cmcaveats x.va x.vn x.vc x.m.V w' (h.V.mono hb); rw [b6] at q; exact q : Calls Try.prog 41 #[.slice x.va x.vn x.vc] w' fun e w'' => e = .returned (.tuple #[]) ∧ Below w'.heap.size w' w''))
  have W7 := Lib.hid (fun g w' (hr : Row w' g 9 [.string x.m.sp, .string x.m.nm]) => (by have q := cmtexts g 2 [x.m.sp, x.m.nm] w' hr rfl (by intro s hs; simp at hs; rcases hs with rfl | rfl; exact h.sp; exact h.nm) (by decide); rw [b7] at q; exact q : Calls Try.prog 42 #[.slice (some ⟨g, 0, none⟩) 2 2] w' fun e w'' => e = rfP 1 ∧ w' = w''))
  clear h b0 b1 b2 b3 b4 b5 b6 b7
  have hmf : ∀ (fn : Fn) (first cap : Array Value) (w : World), (Instr.makeFunc fn first cap).run Try.prog w = .ok (.func fn first cap) w := fun _ _ _ _ => rfl
  go_enter_defers Try.func12, Try.ntmps12
  go_wp2_with (first
    | ((with_reducible refine box_row (o := ⟨some 1, _, _, _, _, _⟩) rfl _ _ rfl x.cells rfl ?_); intro w1 hr hb hz; have X1 := Lib.hid hr; have B1 := Lib.hid hb; have S1 := Lib.hid (show w.heap.size < w1.heap.size by omega); clear hr hb hz)
    | ((with_reducible refine alloc_cell (o := ⟨some 2, _, _, _, _, _⟩) rfl _ rfl (.int .i64 0) rfl EZ.out ?_); intro w2 hr hb hz; have E2 := Lib.hid hr; have X2 := Lib.hid (X1.out.below hb X1.out.lt); have B2 := Lib.hid (B1.out.trans (hb.mono B1.out.size)); have c0 := X2.out.cm.c0; clear hr hb hz)
    | ((with_reducible refine bi1 (o := ⟨some 6, _, _, _, _, _⟩) rfl _ rfl x.m.cl ?_ Fcl.out ?_); (focus (first | (go_simp; done) | (go_simp; rfl))); intro w3 hs hb hz; have S3 := Lib.hid hs; have E3 := Lib.hid (E2.out.below hb E2.out.lt); have X3 := Lib.hid (X2.out.below hb X2.out.lt); have B3 := Lib.hid (B2.out.trans (hb.mono B2.out.size)); have c2 := X3.out.cm.c2; clear hs hb hz)
    | (go_at_call 40; (with_reducible refine (W0.out _ _ _ _ S3.out).mono ?_); rintro e w' ⟨rfl, rfl⟩)
    | ((with_reducible refine bi1 (o := ⟨some 10, _, _, _, _, _⟩) rfl _ rfl x.m.kd ?_ Fkd.out ?_); (focus (first | (go_simp; done) | (go_simp; rfl))); intro w4 hs hb hz; have S4 := Lib.hid hs; have E4 := Lib.hid (E3.out.below hb E3.out.lt); have X4 := Lib.hid (X3.out.below hb X3.out.lt); have B4 := Lib.hid (B3.out.trans (hb.mono B3.out.size)); have c1 := X4.out.cm.c1; have c3 := X4.out.cm.c3; clear hs hb hz)
    | (go_at_call 40; (with_reducible refine (W1.out _ _ _ _ S4.out).mono ?_); rintro e w' ⟨rfl, rfl⟩)
    | ((with_reducible refine bi2 (o := ⟨some 16, _, _, _, _, _⟩) rfl _ _ rfl x.m.sq x.m.id ?_ ?_ Fsq.out Fid.out ?_); (focus (first | (go_simp; done) | (go_simp; rfl))); (focus (first | (go_simp; done) | (go_simp; rfl))); intro w5 hs hb hz; have S5 := Lib.hid hs; have E5 := Lib.hid (E4.out.below hb E4.out.lt); have X5 := Lib.hid (X4.out.below hb X4.out.lt); have B5 := Lib.hid (B4.out.trans (hb.mono B4.out.size)); have c4 := X5.out.cm.c4; have c8 := X5.out.cm.c8; clear hs hb hz)
    | (go_at_call 40; (with_reducible refine (W2.out _ _ _ _ S5.out).mono ?_); rintro e w' ⟨rfl, rfl⟩)
    | ((with_reducible refine bi2 (o := ⟨some 22, _, _, _, _, _⟩) rfl _ _ rfl x.m.ep x.m.nu ?_ ?_ Fep.out Fnu.out ?_); (focus (first | (go_simp; done) | (go_simp; rfl))); (focus (first | (go_simp; done) | (go_simp; rfl))); intro w6 hs hb hz; have S6 := Lib.hid hs; have E6 := Lib.hid (E5.out.below hb E5.out.lt); have X6 := Lib.hid (X5.out.below hb X5.out.lt); have B6 := Lib.hid (B5.out.trans (hb.mono B5.out.size)); have c9 := X6.out.cm.c9; clear hs hb hz)
    | (go_at_call 40; (with_reducible refine (W3.out _ _ _ _ S6.out).mono ?_); rintro e w' ⟨rfl, rfl⟩)
    | ((with_reducible refine bi1 (o := ⟨some 26, _, _, _, _, _⟩) rfl _ rfl x.m.by' ?_ Fby.out ?_); (focus (first | (go_simp; done) | (go_simp; rfl))); intro w7 hs hb hz; have S7 := Lib.hid hs; have E7 := Lib.hid (E6.out.below hb E6.out.lt); have X7 := Lib.hid (X6.out.below hb X6.out.lt); have B7 := Lib.hid (B6.out.trans (hb.mono B6.out.size)); have c10 := X7.out.cm.c10; clear hs hb hz)
    | (go_at_call 40; (with_reducible refine (W4.out _ _ _ _ S7.out).mono ?_); rintro e w' ⟨rfl, rfl⟩)
    | ((with_reducible refine bi1 (o := ⟨some 30, _, _, _, _, _⟩) rfl _ rfl x.m.ti ?_ Fti.out ?_); (focus (first | (go_simp; done) | (go_simp; rfl))); intro w8 hs hb hz; have S8 := Lib.hid hs; have E8 := Lib.hid (E7.out.below hb E7.out.lt); have X8 := Lib.hid (X7.out.below hb X7.out.lt); have B8 := Lib.hid (B7.out.trans (hb.mono B7.out.size)); have c5 := X8.out.cm.c5; clear hs hb hz)
    | (go_at_call 40; (with_reducible refine (W5.out _ _ _ _ S8.out).mono ?_); rintro e w' ⟨rfl, rfl⟩)
    | (go_at_call 41; (with_reducible refine (W6.out w8 B8.out).mono ?_); rintro e w9 ⟨rfl, hb⟩; have E9 := Lib.hid (E8.out.below hb E8.out.lt); have X9 := Lib.hid (X8.out.below hb X8.out.lt); have B9 := Lib.hid (B8.out.trans (hb.mono B8.out.size)); have c6 := X9.out.cm.c6; have c7 := X9.out.cm.c7; clear hb)
    | ((with_reducible refine bs2 (o := ⟨some 39, _, _, _, _, _⟩) rfl _ _ rfl x.m.sp x.m.nm ?_ ?_ ?_); (focus (first | (go_simp; done) | (go_simp; rfl))); (focus (first | (go_simp; done) | (go_simp; rfl))); intro w10 hs hb hz; have S10 := Lib.hid hs; have E10 := Lib.hid (E9.out.below hb E9.out.lt); have X10 := Lib.hid (X9.out.below hb X9.out.lt); have B10 := Lib.hid (B9.out.trans (hb.mono B9.out.size)); have c11 := X10.out.cm.c11; clear hs hb hz)
    | (go_at_call 42; (with_reducible refine (W7.out _ _ S10.out).mono ?_); rintro e w' ⟨rfl, rfl⟩))
  refine leaves_cons (f := 38) (args := #[.pointer (some ⟨w1.heap.size, 0, none⟩)]) (by simp) (by simp [go_sem]) ?_
  refine (chk1_caught w1.heap.size 0 1 _ E10.out).mono ?_
  rintro e u' w'' ⟨rfl, rfl, hr, hb⟩
  have k0 := hr.k0
  have BF := Lib.hid (B10.out.trans (hb.mono B1.out.size))
  clear hr hb
  simp [Leaves, settle, results, Try.results12, go_sem, k0]
  exact ⟨by rw [HO.out], BF.out⟩
set_option maxRecDepth 100000 in
set_option maxHeartbeats 8000000 in
theorem cmcheck8 (x : CmX) (w : World) (h : x.fit w) (b0 : allLH 0 7 [x.m.cl] = true) (b1 : allLH 1 14 [x.m.kd] = true) (b2 : allLH 1 2147483648 [x.m.sq, x.m.id] = true) (b3 : allLH 0 2147483648 [x.m.ep, x.m.nu] = true) (b4 : allLH 0 1099511627776 [x.m.by'] = true) (b5 : allLH 0 1099511627776 [x.m.ti] = true) (b6 : cavsV x.m.V = true) (b7 : [x.m.sp, x.m.nm].all txtV = true) (b8 : decide ((bytesM x.m.P).2 = 0) = false) :
    Calls Try.prog 12 #[.agg x.cells.toArray] w fun e w' => e = .returned (.int .i64 x.m.err) ∧ Below w.heap.size w w' := by
  have HO := Lib.hid (show x.m.err = 1 by unfold Cm.err Cm.ok; rw [b0, b1, b2, b3, b4, b5, b6, b7, b8]; rfl)
  have Fcl := Lib.hid h.cl
  have Fkd := Lib.hid h.kd
  have Fsq := Lib.hid h.sq
  have Fid := Lib.hid h.id
  have Fep := Lib.hid h.ep
  have Fnu := Lib.hid h.nu
  have Fby := Lib.hid h.by'
  have Fti := Lib.hid h.ti
  have EZ := Lib.hid errno_zero
  have W0 := Lib.hid (cmw_ok 0 7 [x.m.cl] b0)
  have W1 := Lib.hid (cmw_ok 1 14 [x.m.kd] b1)
  have W2 := Lib.hid (cmw_ok 1 2147483648 [x.m.sq, x.m.id] b2)
  have W3 := Lib.hid (cmw_ok 0 2147483648 [x.m.ep, x.m.nu] b3)
  have W4 := Lib.hid (cmw_ok 0 1099511627776 [x.m.by'] b4)
  have W5 := Lib.hid (cmw_ok 0 1099511627776 [x.m.ti] b5)
  have W6 := Lib.hid (fun w' (hb : Below w.heap.size w w') => (by have q := cmcaveats x.va x.vn x.vc x.m.V w' (h.V.mono hb); rw [b6] at q; exact q : Calls Try.prog 41 #[.slice x.va x.vn x.vc] w' fun e w'' => e = .returned (.tuple #[]) ∧ Below w'.heap.size w' w''))
  have W7 := Lib.hid (fun g w' (hr : Row w' g 9 [.string x.m.sp, .string x.m.nm]) => (by have q := cmtexts g 2 [x.m.sp, x.m.nm] w' hr rfl (by intro s hs; simp at hs; rcases hs with rfl | rfl; exact h.sp; exact h.nm) (by decide); rw [b7] at q; exact q : Calls Try.prog 42 #[.slice (some ⟨g, 0, none⟩) 2 2] w' fun e w'' => e = .returned (.tuple #[]) ∧ w' = w''))
  have W8 := Lib.hid (fun w' (hb : Below w.heap.size w w') => (by have q := cmpieces x.pa x.pn x.pc x.m.P w' (h.P.mono pcOk hb); rw [b8] at q; exact q : Calls Try.prog 43 #[.slice x.pa x.pn x.pc] w' fun e w'' => e = rfP 1 ∧ Below w'.heap.size w' w''))
  clear h b0 b1 b2 b3 b4 b5 b6 b7 b8
  have hmf : ∀ (fn : Fn) (first cap : Array Value) (w : World), (Instr.makeFunc fn first cap).run Try.prog w = .ok (.func fn first cap) w := fun _ _ _ _ => rfl
  go_enter_defers Try.func12, Try.ntmps12
  go_wp2_with (first
    | ((with_reducible refine box_row (o := ⟨some 1, _, _, _, _, _⟩) rfl _ _ rfl x.cells rfl ?_); intro w1 hr hb hz; have X1 := Lib.hid hr; have B1 := Lib.hid hb; have S1 := Lib.hid (show w.heap.size < w1.heap.size by omega); clear hr hb hz)
    | ((with_reducible refine alloc_cell (o := ⟨some 2, _, _, _, _, _⟩) rfl _ rfl (.int .i64 0) rfl EZ.out ?_); intro w2 hr hb hz; have E2 := Lib.hid hr; have X2 := Lib.hid (X1.out.below hb X1.out.lt); have B2 := Lib.hid (B1.out.trans (hb.mono B1.out.size)); have c0 := X2.out.cm.c0; clear hr hb hz)
    | ((with_reducible refine bi1 (o := ⟨some 6, _, _, _, _, _⟩) rfl _ rfl x.m.cl ?_ Fcl.out ?_); (focus (first | (go_simp; done) | (go_simp; rfl))); intro w3 hs hb hz; have S3 := Lib.hid hs; have E3 := Lib.hid (E2.out.below hb E2.out.lt); have X3 := Lib.hid (X2.out.below hb X2.out.lt); have B3 := Lib.hid (B2.out.trans (hb.mono B2.out.size)); have c2 := X3.out.cm.c2; clear hs hb hz)
    | (go_at_call 40; (with_reducible refine (W0.out _ _ _ _ S3.out).mono ?_); rintro e w' ⟨rfl, rfl⟩)
    | ((with_reducible refine bi1 (o := ⟨some 10, _, _, _, _, _⟩) rfl _ rfl x.m.kd ?_ Fkd.out ?_); (focus (first | (go_simp; done) | (go_simp; rfl))); intro w4 hs hb hz; have S4 := Lib.hid hs; have E4 := Lib.hid (E3.out.below hb E3.out.lt); have X4 := Lib.hid (X3.out.below hb X3.out.lt); have B4 := Lib.hid (B3.out.trans (hb.mono B3.out.size)); have c1 := X4.out.cm.c1; have c3 := X4.out.cm.c3; clear hs hb hz)
    | (go_at_call 40; (with_reducible refine (W1.out _ _ _ _ S4.out).mono ?_); rintro e w' ⟨rfl, rfl⟩)
    | ((with_reducible refine bi2 (o := ⟨some 16, _, _, _, _, _⟩) rfl _ _ rfl x.m.sq x.m.id ?_ ?_ Fsq.out Fid.out ?_); (focus (first | (go_simp; done) | (go_simp; rfl))); (focus (first | (go_simp; done) | (go_simp; rfl))); intro w5 hs hb hz; have S5 := Lib.hid hs; have E5 := Lib.hid (E4.out.below hb E4.out.lt); have X5 := Lib.hid (X4.out.below hb X4.out.lt); have B5 := Lib.hid (B4.out.trans (hb.mono B4.out.size)); have c4 := X5.out.cm.c4; have c8 := X5.out.cm.c8; clear hs hb hz)
    | (go_at_call 40; (with_reducible refine (W2.out _ _ _ _ S5.out).mono ?_); rintro e w' ⟨rfl, rfl⟩)
    | ((with_reducible refine bi2 (o := ⟨some 22, _, _, _, _, _⟩) rfl _ _ rfl x.m.ep x.m.nu ?_ ?_ Fep.out Fnu.out ?_); (focus (first | (go_simp; done) | (go_simp; rfl))); (focus (first | (go_simp; done) | (go_simp; rfl))); intro w6 hs hb hz; have S6 := Lib.hid hs; have E6 := Lib.hid (E5.out.below hb E5.out.lt); have X6 := Lib.hid (X5.out.below hb X5.out.lt); have B6 := Lib.hid (B5.out.trans (hb.mono B5.out.size)); have c9 := X6.out.cm.c9; clear hs hb hz)
    | (go_at_call 40; (with_reducible refine (W3.out _ _ _ _ S6.out).mono ?_); rintro e w' ⟨rfl, rfl⟩)
    | ((with_reducible refine bi1 (o := ⟨some 26, _, _, _, _, _⟩) rfl _ rfl x.m.by' ?_ Fby.out ?_); (focus (first | (go_simp; done) | (go_simp; rfl))); intro w7 hs hb hz; have S7 := Lib.hid hs; have E7 := Lib.hid (E6.out.below hb E6.out.lt); have X7 := Lib.hid (X6.out.below hb X6.out.lt); have B7 := Lib.hid (B6.out.trans (hb.mono B6.out.size)); have c10 := X7.out.cm.c10; clear hs hb hz)
    | (go_at_call 40; (with_reducible refine (W4.out _ _ _ _ S7.out).mono ?_); rintro e w' ⟨rfl, rfl⟩)
    | ((with_reducible refine bi1 (o := ⟨some 30, _, _, _, _, _⟩) rfl _ rfl x.m.ti ?_ Fti.out ?_); (focus (first | (go_simp; done) | (go_simp; rfl))); intro w8 hs hb hz; have S8 := Lib.hid hs; have E8 := Lib.hid (E7.out.below hb E7.out.lt); have X8 := Lib.hid (X7.out.below hb X7.out.lt); have B8 := Lib.hid (B7.out.trans (hb.mono B7.out.size)); have c5 := X8.out.cm.c5; clear hs hb hz)
    | (go_at_call 40; (with_reducible refine (W5.out _ _ _ _ S8.out).mono ?_); rintro e w' ⟨rfl, rfl⟩)
    | (go_at_call 41; (with_reducible refine (W6.out w8 B8.out).mono ?_); rintro e w9 ⟨rfl, hb⟩; have E9 := Lib.hid (E8.out.below hb E8.out.lt); have X9 := Lib.hid (X8.out.below hb X8.out.lt); have B9 := Lib.hid (B8.out.trans (hb.mono B8.out.size)); have c6 := X9.out.cm.c6; have c7 := X9.out.cm.c7; clear hb)
    | ((with_reducible refine bs2 (o := ⟨some 39, _, _, _, _, _⟩) rfl _ _ rfl x.m.sp x.m.nm ?_ ?_ ?_); (focus (first | (go_simp; done) | (go_simp; rfl))); (focus (first | (go_simp; done) | (go_simp; rfl))); intro w10 hs hb hz; have S10 := Lib.hid hs; have E10 := Lib.hid (E9.out.below hb E9.out.lt); have X10 := Lib.hid (X9.out.below hb X9.out.lt); have B10 := Lib.hid (B9.out.trans (hb.mono B9.out.size)); have c11 := X10.out.cm.c11; clear hs hb hz)
    | (go_at_call 42; (with_reducible refine (W7.out _ _ S10.out).mono ?_); rintro e w' ⟨rfl, rfl⟩)
    | (go_at_call 43; (with_reducible refine (W8.out w10 B10.out).mono ?_); rintro e w11 ⟨rfl, hb⟩; have E11 := Lib.hid (E10.out.below hb E10.out.lt); have B11 := Lib.hid (B10.out.trans (hb.mono B10.out.size)); clear hb))
  refine leaves_cons (f := 38) (args := #[.pointer (some ⟨w1.heap.size, 0, none⟩)]) (by simp) (by simp [go_sem]) ?_
  refine (chk1_caught w1.heap.size 0 1 _ E11.out).mono ?_
  rintro e u' w'' ⟨rfl, rfl, hr, hb⟩
  have k0 := hr.k0
  have BF := Lib.hid (B11.out.trans (hb.mono B1.out.size))
  clear hr hb
  simp [Leaves, settle, results, Try.results12, go_sem, k0]
  exact ⟨by rw [HO.out], BF.out⟩
set_option maxRecDepth 100000 in
set_option maxHeartbeats 8000000 in
theorem cmcheck9 (x : CmX) (w : World) (h : x.fit w) (b0 : allLH 0 7 [x.m.cl] = true) (b1 : allLH 1 14 [x.m.kd] = true) (b2 : allLH 1 2147483648 [x.m.sq, x.m.id] = true) (b3 : allLH 0 2147483648 [x.m.ep, x.m.nu] = true) (b4 : allLH 0 1099511627776 [x.m.by'] = true) (b5 : allLH 0 1099511627776 [x.m.ti] = true) (b6 : cavsV x.m.V = true) (b7 : [x.m.sp, x.m.nm].all txtV = true) (b8 : decide ((bytesM x.m.P).2 = 0) = true) :
    Calls Try.prog 12 #[.agg x.cells.toArray] w fun e w' => e = .returned (.int .i64 x.m.err) ∧ Below w.heap.size w w' := by
  have HO := Lib.hid (show x.m.err = 0 by unfold Cm.err Cm.ok; rw [b0, b1, b2, b3, b4, b5, b6, b7, b8]; rfl)
  have Fcl := Lib.hid h.cl
  have Fkd := Lib.hid h.kd
  have Fsq := Lib.hid h.sq
  have Fid := Lib.hid h.id
  have Fep := Lib.hid h.ep
  have Fnu := Lib.hid h.nu
  have Fby := Lib.hid h.by'
  have Fti := Lib.hid h.ti
  have EZ := Lib.hid errno_zero
  have W0 := Lib.hid (cmw_ok 0 7 [x.m.cl] b0)
  have W1 := Lib.hid (cmw_ok 1 14 [x.m.kd] b1)
  have W2 := Lib.hid (cmw_ok 1 2147483648 [x.m.sq, x.m.id] b2)
  have W3 := Lib.hid (cmw_ok 0 2147483648 [x.m.ep, x.m.nu] b3)
  have W4 := Lib.hid (cmw_ok 0 1099511627776 [x.m.by'] b4)
  have W5 := Lib.hid (cmw_ok 0 1099511627776 [x.m.ti] b5)
  have W6 := Lib.hid (fun w' (hb : Below w.heap.size w w') => (by have q := cmcaveats x.va x.vn x.vc x.m.V w' (h.V.mono hb); rw [b6] at q; exact q : Calls Try.prog 41 #[.slice x.va x.vn x.vc] w' fun e w'' => e = .returned (.tuple #[]) ∧ Below w'.heap.size w' w''))
  have W7 := Lib.hid (fun g w' (hr : Row w' g 9 [.string x.m.sp, .string x.m.nm]) => (by have q := cmtexts g 2 [x.m.sp, x.m.nm] w' hr rfl (by intro s hs; simp at hs; rcases hs with rfl | rfl; exact h.sp; exact h.nm) (by decide); rw [b7] at q; exact q : Calls Try.prog 42 #[.slice (some ⟨g, 0, none⟩) 2 2] w' fun e w'' => e = .returned (.tuple #[]) ∧ w' = w''))
  have W8 := Lib.hid (fun w' (hb : Below w.heap.size w w') => (by have q := cmpieces x.pa x.pn x.pc x.m.P w' (h.P.mono pcOk hb); rw [b8] at q; exact q : Calls Try.prog 43 #[.slice x.pa x.pn x.pc] w' fun e w'' => e = .returned (.tuple #[]) ∧ Below w'.heap.size w' w''))
  clear h b0 b1 b2 b3 b4 b5 b6 b7 b8
  have hmf : ∀ (fn : Fn) (first cap : Array Value) (w : World), (Instr.makeFunc fn first cap).run Try.prog w = .ok (.func fn first cap) w := fun _ _ _ _ => rfl
  go_enter_defers Try.func12, Try.ntmps12
  go_wp2_with (first
    | ((with_reducible refine box_row (o := ⟨some 1, _, _, _, _, _⟩) rfl _ _ rfl x.cells rfl ?_); intro w1 hr hb hz; have X1 := Lib.hid hr; have B1 := Lib.hid hb; have S1 := Lib.hid (show w.heap.size < w1.heap.size by omega); clear hr hb hz)
    | ((with_reducible refine alloc_cell (o := ⟨some 2, _, _, _, _, _⟩) rfl _ rfl (.int .i64 0) rfl EZ.out ?_); intro w2 hr hb hz; have E2 := Lib.hid hr; have X2 := Lib.hid (X1.out.below hb X1.out.lt); have B2 := Lib.hid (B1.out.trans (hb.mono B1.out.size)); have c0 := X2.out.cm.c0; clear hr hb hz)
    | ((with_reducible refine bi1 (o := ⟨some 6, _, _, _, _, _⟩) rfl _ rfl x.m.cl ?_ Fcl.out ?_); (focus (first | (go_simp; done) | (go_simp; rfl))); intro w3 hs hb hz; have S3 := Lib.hid hs; have E3 := Lib.hid (E2.out.below hb E2.out.lt); have X3 := Lib.hid (X2.out.below hb X2.out.lt); have B3 := Lib.hid (B2.out.trans (hb.mono B2.out.size)); have c2 := X3.out.cm.c2; clear hs hb hz)
    | (go_at_call 40; (with_reducible refine (W0.out _ _ _ _ S3.out).mono ?_); rintro e w' ⟨rfl, rfl⟩)
    | ((with_reducible refine bi1 (o := ⟨some 10, _, _, _, _, _⟩) rfl _ rfl x.m.kd ?_ Fkd.out ?_); (focus (first | (go_simp; done) | (go_simp; rfl))); intro w4 hs hb hz; have S4 := Lib.hid hs; have E4 := Lib.hid (E3.out.below hb E3.out.lt); have X4 := Lib.hid (X3.out.below hb X3.out.lt); have B4 := Lib.hid (B3.out.trans (hb.mono B3.out.size)); have c1 := X4.out.cm.c1; have c3 := X4.out.cm.c3; clear hs hb hz)
    | (go_at_call 40; (with_reducible refine (W1.out _ _ _ _ S4.out).mono ?_); rintro e w' ⟨rfl, rfl⟩)
    | ((with_reducible refine bi2 (o := ⟨some 16, _, _, _, _, _⟩) rfl _ _ rfl x.m.sq x.m.id ?_ ?_ Fsq.out Fid.out ?_); (focus (first | (go_simp; done) | (go_simp; rfl))); (focus (first | (go_simp; done) | (go_simp; rfl))); intro w5 hs hb hz; have S5 := Lib.hid hs; have E5 := Lib.hid (E4.out.below hb E4.out.lt); have X5 := Lib.hid (X4.out.below hb X4.out.lt); have B5 := Lib.hid (B4.out.trans (hb.mono B4.out.size)); have c4 := X5.out.cm.c4; have c8 := X5.out.cm.c8; clear hs hb hz)
    | (go_at_call 40; (with_reducible refine (W2.out _ _ _ _ S5.out).mono ?_); rintro e w' ⟨rfl, rfl⟩)
    | ((with_reducible refine bi2 (o := ⟨some 22, _, _, _, _, _⟩) rfl _ _ rfl x.m.ep x.m.nu ?_ ?_ Fep.out Fnu.out ?_); (focus (first | (go_simp; done) | (go_simp; rfl))); (focus (first | (go_simp; done) | (go_simp; rfl))); intro w6 hs hb hz; have S6 := Lib.hid hs; have E6 := Lib.hid (E5.out.below hb E5.out.lt); have X6 := Lib.hid (X5.out.below hb X5.out.lt); have B6 := Lib.hid (B5.out.trans (hb.mono B5.out.size)); have c9 := X6.out.cm.c9; clear hs hb hz)
    | (go_at_call 40; (with_reducible refine (W3.out _ _ _ _ S6.out).mono ?_); rintro e w' ⟨rfl, rfl⟩)
    | ((with_reducible refine bi1 (o := ⟨some 26, _, _, _, _, _⟩) rfl _ rfl x.m.by' ?_ Fby.out ?_); (focus (first | (go_simp; done) | (go_simp; rfl))); intro w7 hs hb hz; have S7 := Lib.hid hs; have E7 := Lib.hid (E6.out.below hb E6.out.lt); have X7 := Lib.hid (X6.out.below hb X6.out.lt); have B7 := Lib.hid (B6.out.trans (hb.mono B6.out.size)); have c10 := X7.out.cm.c10; clear hs hb hz)
    | (go_at_call 40; (with_reducible refine (W4.out _ _ _ _ S7.out).mono ?_); rintro e w' ⟨rfl, rfl⟩)
    | ((with_reducible refine bi1 (o := ⟨some 30, _, _, _, _, _⟩) rfl _ rfl x.m.ti ?_ Fti.out ?_); (focus (first | (go_simp; done) | (go_simp; rfl))); intro w8 hs hb hz; have S8 := Lib.hid hs; have E8 := Lib.hid (E7.out.below hb E7.out.lt); have X8 := Lib.hid (X7.out.below hb X7.out.lt); have B8 := Lib.hid (B7.out.trans (hb.mono B7.out.size)); have c5 := X8.out.cm.c5; clear hs hb hz)
    | (go_at_call 40; (with_reducible refine (W5.out _ _ _ _ S8.out).mono ?_); rintro e w' ⟨rfl, rfl⟩)
    | (go_at_call 41; (with_reducible refine (W6.out w8 B8.out).mono ?_); rintro e w9 ⟨rfl, hb⟩; have E9 := Lib.hid (E8.out.below hb E8.out.lt); have X9 := Lib.hid (X8.out.below hb X8.out.lt); have B9 := Lib.hid (B8.out.trans (hb.mono B8.out.size)); have c6 := X9.out.cm.c6; have c7 := X9.out.cm.c7; clear hb)
    | ((with_reducible refine bs2 (o := ⟨some 39, _, _, _, _, _⟩) rfl _ _ rfl x.m.sp x.m.nm ?_ ?_ ?_); (focus (first | (go_simp; done) | (go_simp; rfl))); (focus (first | (go_simp; done) | (go_simp; rfl))); intro w10 hs hb hz; have S10 := Lib.hid hs; have E10 := Lib.hid (E9.out.below hb E9.out.lt); have X10 := Lib.hid (X9.out.below hb X9.out.lt); have B10 := Lib.hid (B9.out.trans (hb.mono B9.out.size)); have c11 := X10.out.cm.c11; clear hs hb hz)
    | (go_at_call 42; (with_reducible refine (W7.out _ _ S10.out).mono ?_); rintro e w' ⟨rfl, rfl⟩)
    | (go_at_call 43; (with_reducible refine (W8.out w10 B10.out).mono ?_); rintro e w11 ⟨rfl, hb⟩; have E11 := Lib.hid (E10.out.below hb E10.out.lt); have B11 := Lib.hid (B10.out.trans (hb.mono B10.out.size)); clear hb)
    | ((with_reducible refine store_cell (o := ⟨none, _, _, _, _, _⟩) rfl _ (.tmp 2) _ rfl w1.heap.size 0 (.int .i64 0) ?_ ?_ rfl rfl 29 _ E11.out ?_ ?_ ?_); (focus go_simp); (focus go_simp); (focus (exact errno_size)); (focus (show 0 < 1; decide)); intro w20 hr hu; have E20 := Lib.hid (show Row w20 w1.heap.size 29 [.int .i64 0] from hr); have B20 := Lib.hid (B11.out.trans (hu.below B1.out.size)); clear hr hu))
  refine leaves_cons (f := 38) (args := #[.pointer (some ⟨w1.heap.size, 0, none⟩)]) (by simp) (by simp [go_sem]) ?_
  refine (chk1_idle w1.heap.size 0 _ E20.out).mono ?_
  rintro e u' w'' ⟨rfl, rfl, hr, hb⟩
  have k0 := hr.k0
  have BF := Lib.hid (B20.out.trans (hb.mono B1.out.size))
  clear hr hb
  simp [Leaves, settle, results, Try.results12, go_sem, k0]
  exact ⟨by rw [HO.out], BF.out⟩
theorem cmcheck (x : CmX) (w : World) (h : x.fit w) : Calls Try.prog 12 #[.agg x.cells.toArray] w fun e w' => e = .returned (.int .i64 x.m.err) ∧ Below w.heap.size w w' := by
  cases b0 : allLH 0 7 [x.m.cl]
  · exact cmcheck0 x w h b0
  · skip
    cases b1 : allLH 1 14 [x.m.kd]
    · exact cmcheck1 x w h b0 b1
    · skip
      cases b2 : allLH 1 2147483648 [x.m.sq, x.m.id]
      · exact cmcheck2 x w h b0 b1 b2
      · skip
        cases b3 : allLH 0 2147483648 [x.m.ep, x.m.nu]
        · exact cmcheck3 x w h b0 b1 b2 b3
        · skip
          cases b4 : allLH 0 1099511627776 [x.m.by']
          · exact cmcheck4 x w h b0 b1 b2 b3 b4
          · skip
            cases b5 : allLH 0 1099511627776 [x.m.ti]
            · exact cmcheck5 x w h b0 b1 b2 b3 b4 b5
            · skip
              cases b6 : cavsV x.m.V
              · exact cmcheck6 x w h b0 b1 b2 b3 b4 b5 b6
              · skip
                cases b7 : [x.m.sp, x.m.nm].all txtV
                · exact cmcheck7 x w h b0 b1 b2 b3 b4 b5 b6 b7
                · skip
                  cases b8 : decide ((bytesM x.m.P).2 = 0)
                  · exact cmcheck8 x w h b0 b1 b2 b3 b4 b5 b6 b7 b8
                  · skip
                    exact cmcheck9 x w h b0 b1 b2 b3 b4 b5 b6 b7 b8
end Go.Proofs.Ytmacjpgeamlmhaa.W
