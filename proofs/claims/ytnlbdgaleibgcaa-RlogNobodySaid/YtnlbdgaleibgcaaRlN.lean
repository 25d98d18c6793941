/- LAYER 13 (rlog): law Nobody. -/
import Derived.Test.YtnlbdgaleibgcaaRlW
set_option linter.unusedSimpArgs false
set_option linter.unusedVariables false
namespace Go.Proofs.Ytnlbdgaleibgcaa.W
open Go Go.ChangeShapes Go.WideShapes Go.ChangeAt Go.RowKit

set_option maxRecDepth 100000 in
theorem nappend (e : En) (w : World) : Calls Try.prog 14 #[.pointer none, .agg e.cells.toArray] w fun x w' => x = .returned (.int .i64 2) ∧ Below w.heap.size w w' := by
  go_enter Try.func14, Try.ntmps14
  go_wp2_with (first
    | (with_reducible refine box_row (o := ⟨some 3, _, _, _, _, _⟩) rfl _ _ rfl e.cells rfl ?_; intro w1 hr1 hb1 hz1; have E1 := Lib.hid hr1; have B1 := Lib.hid hb1; clear hr1 hb1 hz1)
    | (go_at_call 41; (with_reducible refine (nready _).mono ?_); rintro x w9 ⟨rfl, rfl⟩))
  go_ret
  exact ⟨rfl, B1.out⟩
set_option maxRecDepth 100000 in
theorem zappend (p : Nat) (e : En) (w : World) (h : Row w p 55 [.bool false, .int .i64 0, .int .i64 0, .int .i64 0, .slice none 0 0]) : Calls Try.prog 14 #[.pointer (some ⟨p, 0, none⟩), .agg e.cells.toArray] w fun x w' => x = .returned (.int .i64 2) ∧ Below w.heap.size w w' := by
  have Z := Lib.hid h
  clear h
  go_enter Try.func14, Try.ntmps14
  go_wp2_with (first
    | (with_reducible refine box_row (o := ⟨some 3, _, _, _, _, _⟩) rfl _ _ rfl e.cells rfl ?_; intro w1 hr1 hb1 hz1; have E1 := Lib.hid hr1; have B1 := Lib.hid hb1; clear hr1 hb1 hz1)
    | (go_at_call 41; (with_reducible refine (zready p w1 ?_).mono ?_); (focus (exact Z.out.below B1.out Z.out.lt)); rintro x w9 ⟨rfl, rfl⟩))
  go_ret
  exact ⟨rfl, B1.out⟩
set_option maxRecDepth 100000 in
theorem ncut (i : Int) (w : World) : Calls Try.prog 16 #[.pointer none, .int .i64 i] w fun x w' => x = .returned (.int .i64 2) ∧ Below w.heap.size w w' := by
  go_enter Try.func16, Try.ntmps16
  go_wp2_with (first
    | (with_reducible refine box_cell (o := ⟨some 3, _, _, _, _, _⟩) rfl _ _ rfl (.int .i64 i) rfl rfl ?_; intro w1 hr1 hb1 hz1; have R1 := Lib.hid hr1; have B1 := Lib.hid hb1; have d0 := R1.out.k0; clear hr1 hb1 hz1)
    | (go_at_call 41; (with_reducible refine (nready _).mono ?_); rintro x w9 ⟨rfl, rfl⟩))
  go_ret
  exact ⟨rfl, B1.out⟩
set_option maxRecDepth 100000 in
theorem zcut (p : Nat) (i : Int) (w : World) (h : Row w p 55 [.bool false, .int .i64 0, .int .i64 0, .int .i64 0, .slice none 0 0]) : Calls Try.prog 16 #[.pointer (some ⟨p, 0, none⟩), .int .i64 i] w fun x w' => x = .returned (.int .i64 2) ∧ Below w.heap.size w w' := by
  have Z := Lib.hid h
  clear h
  go_enter Try.func16, Try.ntmps16
  go_wp2_with (first
    | (with_reducible refine box_cell (o := ⟨some 3, _, _, _, _, _⟩) rfl _ _ rfl (.int .i64 i) rfl rfl ?_; intro w1 hr1 hb1 hz1; have R1 := Lib.hid hr1; have B1 := Lib.hid hb1; have d0 := R1.out.k0; clear hr1 hb1 hz1)
    | (go_at_call 41; (with_reducible refine (zready p w1 ?_).mono ?_); (focus (exact Z.out.below B1.out Z.out.lt)); rintro x w9 ⟨rfl, rfl⟩))
  go_ret
  exact ⟨rfl, B1.out⟩
set_option maxRecDepth 100000 in
theorem ncompact (i : Int) (w : World) : Calls Try.prog 18 #[.pointer none, .int .i64 i] w fun x w' => x = .returned (.int .i64 2) ∧ Below w.heap.size w w' := by
  go_enter Try.func18, Try.ntmps18
  go_wp2_with (first
    | (with_reducible refine box_cell (o := ⟨some 3, _, _, _, _, _⟩) rfl _ _ rfl (.int .i64 i) rfl rfl ?_; intro w1 hr1 hb1 hz1; have R1 := Lib.hid hr1; have B1 := Lib.hid hb1; have d0 := R1.out.k0; clear hr1 hb1 hz1)
    | (go_at_call 34; (with_reducible refine (nterm i w1).mono ?_); rintro x w2 ⟨rfl, hb⟩; have B2 := Lib.hid (B1.out.trans (hb.mono B1.out.size)); clear hb)
    | (go_at_call 41; (with_reducible refine (nready _).mono ?_); rintro x w9 ⟨rfl, rfl⟩))
  go_ret
  exact ⟨rfl, B2.out⟩
set_option maxRecDepth 100000 in
theorem zlast (p : Nat) (w : World) (h : Row w p 55 [.bool false, .int .i64 0, .int .i64 0, .int .i64 0, .slice none 0 0]) : Calls Try.prog 30 #[.pointer (some ⟨p, 0, none⟩)] w fun x w' => x = .returned (.int .i64 0) ∧ Below w.heap.size w w' := by
  have Z := Lib.hid h
  clear h
  go_enter Try.func30, Try.ntmps30
  go_wp2_with (first | (go_at_call 41; (with_reducible refine (zready p w Z.out).mono ?_); rintro x w9 ⟨rfl, rfl⟩))
  go_ret
  exact ⟨rfl, Below.refl _ _⟩
theorem lg_zero : (Try.prog.info? 55).map (·.zero) = some (some (.agg #[.bool false, .int .i64 0, .int .i64 0, .int .i64 0, .slice none 0 0])) := by kernel_rfl
theorem zappendL (p : Nat) (e : En) (w : World) (h : Row w p 55 [.bool false, .int .i64 0, .int .i64 0, .int .i64 0, .slice none 0 0]) : Calls Try.prog 14 #[.pointer (some ⟨p, 0, none⟩), .agg #[.int .i64 e.ix, .int .i64 e.tm, .int .i64 e.kd, .slice e.a e.n e.c]] w fun x w' => x = .returned (.int .i64 2) ∧ Below w.heap.size w w' := zappend p e w h
set_option maxRecDepth 100000 in
set_option maxHeartbeats 8000000 in
theorem law_RlogNobody (n : Int) (e : En) (w : World) (wn : (Lit.int .i64 n).wf = true) (we : ∃ l, EnF w e l) :
    Calls Try.prog 6 #[.int .i64 n, .agg e.cells.toArray] w fun x w' => x = .returned (.bool true) ∧ Below w.heap.size w w' := by
  have ES := Lib.hid en_size
  have LZ := Lib.hid lg_zero
  clear we wn
  go_enter Try.func6, Try.ntmps6
  go_wp2_with (first
    | (with_reducible refine box_row (o := ⟨some 3, _, _, _, _, _⟩) rfl _ _ rfl e.cells rfl ?_; intro w1 hr1 hb1 hz1; have E1 := Lib.hid hr1; have B1 := Lib.hid hb1; clear hr1 hb1 hz1)
    | ((with_reducible refine alloc_row (o := ⟨some 6, _, _, _, _, _⟩) rfl _ rfl _ LZ.out ?_); intro w2 hr hb hz; have Z2 := Lib.hid hr; have E2 := Lib.hid (E1.out.below hb E1.out.lt); have C2 := Lib.hid (Below.refl w2.heap.size w2); have B2 := Lib.hid (B1.out.trans (hb.mono B1.out.size)); clear hr hb hz)
    | (go_at_call 20; (with_reducible refine (nreset 1 1 1 w2).mono ?_); rintro x w9 ⟨⟨v, rfl⟩, rfl⟩)
    | (go_at_call 34; (with_reducible refine (nterm n w2).mono ?_); rintro x w3 ⟨rfl, hb⟩; have C3 := Lib.hid (C2.out.trans (hb.mono C2.out.size)); clear hb)
    | ((with_reducible refine load_row (o := ⟨some 19, _, _, _, _, _⟩) rfl _ _ rfl w.heap.size ?_ _ e.cells _ (E2.out.below C3.out E2.out.lt) Try.underlying34 rfl ?_ ?_); (focus go_simp); (focus (exact ES.out)))
    | (go_at_call 14; (with_reducible refine (nappend e w3).mono ?_); rintro x w4 ⟨rfl, hb⟩; have C4 := Lib.hid (C3.out.trans (hb.mono C3.out.size)); clear hb)
    | (go_at_call 16; (with_reducible refine (ncut n w4).mono ?_); rintro x w5 ⟨rfl, hb⟩; have C5 := Lib.hid (C4.out.trans (hb.mono C4.out.size)); clear hb)
    | (go_at_call 18; (with_reducible refine (ncompact n w5).mono ?_); rintro x w6 ⟨rfl, hb⟩; have C6 := Lib.hid (C5.out.trans (hb.mono C5.out.size)); clear hb; obtain ⟨e0, e1, e2, e3⟩ := (E2.out.below C6.out E2.out.lt).q4)
    | (go_at_call 14; (with_reducible refine (zappendL w1.heap.size e w6 ?_).mono ?_); (focus (exact Z2.out.below C6.out Z2.out.lt)); rintro x w7 ⟨rfl, hb⟩; have C7 := Lib.hid (C6.out.trans (hb.mono C6.out.size)); clear hb; clear e0 e1 e2 e3)
    | (go_at_call 16; (with_reducible refine (zcut w1.heap.size n w7 ?_).mono ?_); (focus (exact Z2.out.below C7.out Z2.out.lt)); rintro x w8 ⟨rfl, hb⟩; have C8 := Lib.hid (C7.out.trans (hb.mono C7.out.size)); clear hb)
    | (go_at_call 33; (with_reducible refine (nbase w8).mono ?_); rintro x w9 ⟨rfl, hb⟩; have C9 := Lib.hid (C8.out.trans (hb.mono C8.out.size)); clear hb)
    | (go_at_call 30; (with_reducible refine (nlast w9).mono ?_); rintro x w10 ⟨rfl, hb⟩; have C10 := Lib.hid (C9.out.trans (hb.mono C9.out.size)); clear hb)
    | (go_at_call 31; (with_reducible refine (nlastT w10).mono ?_); rintro x w11 ⟨rfl, hb⟩; have C11 := Lib.hid (C10.out.trans (hb.mono C10.out.size)); clear hb)
    | (go_at_call 32; (with_reducible refine (nconf w11).mono ?_); rintro x w12 ⟨rfl, hb⟩; have C12 := Lib.hid (C11.out.trans (hb.mono C11.out.size)); clear hb)
    | (go_at_call 35; (with_reducible refine (nconfAt n w12).mono ?_); rintro x w13 ⟨rfl, hb⟩; have C13 := Lib.hid (C12.out.trans (hb.mono C12.out.size)); clear hb)
    | (go_at_call 22; (with_reducible refine (nfrom n n w13).mono ?_); rintro x w14 ⟨rfl, hb⟩; have C14 := Lib.hid (C13.out.trans (hb.mono C13.out.size)); clear hb)
    | (go_at_call 30; (with_reducible refine (zlast w1.heap.size w14 ?_).mono ?_); (focus (exact Z2.out.below C14.out Z2.out.lt)); rintro x w15 ⟨rfl, hb⟩; have C15 := Lib.hid (C14.out.trans (hb.mono C14.out.size)); clear hb)
    | (go_at_call 8; (with_reducible refine (awake13 w15).mono ?_); rintro x w16 ⟨rfl, hb⟩; have C16 := Lib.hid (C15.out.trans (hb.mono C15.out.size)); clear hb))
  go_ret
  exact ⟨one (vbool (by simp)), B2.out.trans (C16.out.mono B2.out.size)⟩
end Go.Proofs.Ytnlbdgaleibgcaa.W
