/- DEEDS as they come in; THE LAWS of layer 6 (caveat): CaveatHolds. -/
import Derived.Test.YtnmcfokckdgbaaaCavF2
namespace Go.Proofs.Ytnmcfokckdgbaaa.W
open Go.ChangeShapes Go.WideShapes Go.ChangeAt Go.RowKit

section
variable {H : Type} {enc : TypeId × Value → H} {w : World} {base : Nat} {spare : Nat → Bool} {held : Bool}
theorem dd_cells {fuel : Nat} {cs : List Value} {x : DataW H × List MemPlace} (h : DataW.trod enc Try.prog w base spare held fuel 41 cs = some x) : ∃ d : Dd, cs = d.cells ∧ d.fit := by
  obtain ⟨xs, n, hn, rfl, hl, hlen, hf⟩ := DataW.trod_struct Try.underlying41 h
  have hcl : Try.prog.cellsOf 41 = 6 := by kernel_rfl
  rw [hcl] at hl
  have f0 := hf 0 _ rfl
  have f1 := hf 1 _ rfl
  have f2 := hf 2 _ rfl
  have f3 := hf 3 _ rfl
  have f4 := hf 4 _ rfl
  have f5 := hf 5 _ rfl
  match cs, hl with
  | [v0, v1, v2, v3, v4, v5], _ =>
    have c1 : Try.prog.cellsOf 3 = 1 := by kernel_rfl
    have c2 : Try.prog.cellsOf 9 = 1 := by kernel_rfl
    match xs, hlen with
    | [x0, x1, x2, x3, x4, x5], _ =>
    simp [c1] at f0 f1 f2 f3
    simp [c2] at f4 f5
    obtain ⟨n0, e0, -, w0⟩ := DataW.trod_int Try.underlying3 f0
    obtain ⟨n1, e1, -, w1⟩ := DataW.trod_int Try.underlying3 f1
    obtain ⟨n2, e2, -, w2⟩ := DataW.trod_int Try.underlying3 f2
    obtain ⟨n3, e3, -, w3⟩ := DataW.trod_int Try.underlying3 f3
    obtain ⟨s, e4, -, w4⟩ := DataW.trod_string Try.underlying9 f4
    obtain ⟨s', e5, -, w5⟩ := DataW.trod_string Try.underlying9 f5
    simp at e0 e1 e2 e3 e4 e5
    exact ⟨⟨n0, n1, n2, n3, s, s'⟩, by simp [Dd.cells, e0, e1, e2, e3, e4, e5], bd w0, bd w1, bd w2, bd w3, w4, w5⟩
theorem dd_open {base' : Nat} {v : Value} {d : DataW H} {pl : List MemPlace} (hv : Value.okWide Try.prog w .any base' 41 v) (h : DataW.Trod enc Try.prog w base spare held 41 v d pl) : ∃ d : Dd, v = d.val ∧ d.fit := by
  obtain ⟨fuel, hf⟩ := h
  obtain ⟨c, hc, hfit⟩ := dd_cells hf
  obtain ⟨cs, rfl, -⟩ := okWide_struct Try.underlying41 hv
  refine ⟨c, ?_, hfit⟩
  simp [Value.cells] at hc
  unfold Dd.val
  congr 1
  apply Array.ext'
  rw [hc]; rfl
end

set_option maxRecDepth 100000 in
set_option maxHeartbeats 4000000 in
theorem law_CaveatHolds (c : Cv) (a : Option Addr) (len cap : Nat) (L : List Cv) (d : Dd) (w : World) (hc : c.fit) (h : Cvs w a len cap L) (hd : d.fit) :
    Calls Try.prog 8 #[c.val, .slice a len cap, d.val] w fun e w' => e = .returned (.bool true) ∧ Below w.heap.size w w' := by
  have HC := Lib.hid hc
  have HD := Lib.hid hd
  have H := Lib.hid h
  obtain ⟨kind, num, name⟩ := c
  obtain ⟨act, time, client, bytes, space, snap⟩ := d
  have hn : name.size ≤ maxLen := hc.2.2
  unfold maxLen at hn
  clear hc hd h
  rcases hfew : fewV L with _ | _
  · have FEW := Lib.hid hfew
    clear hfew
    go_enter Try.func8, Try.ntmps8
    go_wp2_with (first
      | (with_reducible refine box_row (o := ⟨some 3, _, _, _, _, _⟩) rfl _ _ rfl [.int .i64 kind, .int .i64 num, .string name] rfl ?_; intro w1 hr1 hb1 hz1; have HR1 := Lib.hid hr1; clear hr1; have HZ1 := Lib.hid hz1; clear hz1; have HB1 := Lib.hid hb1; clear hb1)
      | (with_reducible refine box_row (o := ⟨some 5, _, _, _, _, _⟩) rfl _ _ rfl [.int .i64 act, .int .i64 time, .int .i64 client, .int .i64 bytes, .string space, .string snap] rfl ?_; intro w2 hr2 hb2 hz2; have HR2 := Lib.hid hr2; clear hr2; have HZ2 := Lib.hid hz2; clear hz2; have HRC := Lib.hid (HR1.out.below hb2 (by have := HZ1.out; omega)); have HB2 := Lib.hid (HB1.out.trans (hb2.mono (by have := HZ1.out; omega))); clear hb2)
      | (go_at_call 27; refine (few_any a len cap L _ (H.out.mono HB2.out)).mono ?_; rw [FEW.out]; rintro e w3 ⟨rfl, hb3⟩; have HC3 := Lib.hid (HRC.out.below hb3 HRC.out.lt); have HD3 := Lib.hid (HR2.out.below hb3 HR2.out.lt); have HB3 := Lib.hid (HB2.out.trans (hb3.mono HB2.out.size)); clear hb3; have f0 := HC3.out.c0; have f1 := HC3.out.c1; have f2 := HC3.out.c2)
      | (go_at_call 22; refine (awake6 _).mono ?_; rintro e w' ⟨rfl, hb⟩))
    go_ret
    exact ⟨rfl, HB3.out.trans ((by assumption : Below w3.heap.size w3 _).mono HB3.out.size)⟩
  · have FEW := Lib.hid hfew
    clear hfew
    by_cases h2 : 200 < name.size
    · go_enter Try.func8, Try.ntmps8
      go_wp2_with (first
      | (with_reducible refine box_row (o := ⟨some 3, _, _, _, _, _⟩) rfl _ _ rfl [.int .i64 kind, .int .i64 num, .string name] rfl ?_; intro w1 hr1 hb1 hz1; have HR1 := Lib.hid hr1; clear hr1; have HZ1 := Lib.hid hz1; clear hz1; have HB1 := Lib.hid hb1; clear hb1)
      | (with_reducible refine box_row (o := ⟨some 5, _, _, _, _, _⟩) rfl _ _ rfl [.int .i64 act, .int .i64 time, .int .i64 client, .int .i64 bytes, .string space, .string snap] rfl ?_; intro w2 hr2 hb2 hz2; have HR2 := Lib.hid hr2; clear hr2; have HZ2 := Lib.hid hz2; clear hz2; have HRC := Lib.hid (HR1.out.below hb2 (by have := HZ1.out; omega)); have HB2 := Lib.hid (HB1.out.trans (hb2.mono (by have := HZ1.out; omega))); clear hb2)
      | (go_at_call 27; refine (few_any a len cap L _ (H.out.mono HB2.out)).mono ?_; rw [FEW.out]; rintro e w3 ⟨rfl, hb3⟩; have HC3 := Lib.hid (HRC.out.below hb3 HRC.out.lt); have HD3 := Lib.hid (HR2.out.below hb3 HR2.out.lt); have HB3 := Lib.hid (HB2.out.trans (hb3.mono HB2.out.size)); clear hb3; have f0 := HC3.out.c0; have f1 := HC3.out.c1; have f2 := HC3.out.c2)
      | (go_at_call 22; refine (awake6 _).mono ?_; rintro e w' ⟨rfl, hb⟩))
      go_ret
      exact ⟨rfl, HB3.out.trans ((by assumption : Below w3.heap.size w3 _).mono HB3.out.size)⟩
    · go_enter Try.func8, Try.ntmps8
      go_wp2_with (first
      | (with_reducible refine box_row (o := ⟨some 3, _, _, _, _, _⟩) rfl _ _ rfl [.int .i64 kind, .int .i64 num, .string name] rfl ?_; intro w1 hr1 hb1 hz1; have HR1 := Lib.hid hr1; clear hr1; have HZ1 := Lib.hid hz1; clear hz1; have HB1 := Lib.hid hb1; clear hb1)
      | (with_reducible refine box_row (o := ⟨some 5, _, _, _, _, _⟩) rfl _ _ rfl [.int .i64 act, .int .i64 time, .int .i64 client, .int .i64 bytes, .string space, .string snap] rfl ?_; intro w2 hr2 hb2 hz2; have HR2 := Lib.hid hr2; clear hr2; have HZ2 := Lib.hid hz2; clear hz2; have HRC := Lib.hid (HR1.out.below hb2 (by have := HZ1.out; omega)); have HB2 := Lib.hid (HB1.out.trans (hb2.mono (by have := HZ1.out; omega))); clear hb2)
      | (go_at_call 27; refine (few_any a len cap L _ (H.out.mono HB2.out)).mono ?_; rw [FEW.out]; rintro e w3 ⟨rfl, hb3⟩; have HC3 := Lib.hid (HRC.out.below hb3 HRC.out.lt); have HD3 := Lib.hid (HR2.out.below hb3 HR2.out.lt); have HB3 := Lib.hid (HB2.out.trans (hb3.mono HB2.out.size)); clear hb3; have f0 := HC3.out.c0; have f1 := HC3.out.c1; have f2 := HC3.out.c2)
      | (go_at_call 22; refine (awake6 _).mono ?_; rintro e w' ⟨rfl, hb⟩))
      clear f0 f1 f2
      refine region_w (C := fun v => Below w3.heap.size w3 v) (by kernel_rfl) (by kernel_rfl) (Below.refl _ _).drew ?_
      repeat (first
        | (refine w_read (wanted_free rfl) ?_ ?_ ?_; rotate_left; (focus (intro v hv; have f0 := (HC3.out.below hv HC3.out.lt).c0; have f1 := (HC3.out.below hv HC3.out.lt).c1; have f2 := (HC3.out.below hv HC3.out.lt).c2; have d0 := (HD3.out.below hv HD3.out.lt).c0; have d1 := (HD3.out.below hv HD3.out.lt).c1; have d2 := (HD3.out.below hv HD3.out.lt).c2; have d3 := (HD3.out.below hv HD3.out.lt).c3; have d4 := (HD3.out.below hv HD3.out.lt).c4; have d5 := (HD3.out.below hv HD3.out.lt).c5; go_simp; rfl)); go_simp)
        | (refine w_skip ?_ ?_; (focus (go_simp; first | done | (intro h; cases h) | simp)); go_simp)
        | (refine w_read ?_ ?_ ?_ ?_; (focus (go_simp; done)); rotate_left; (focus (intro v hv; have f0 := (HC3.out.below hv HC3.out.lt).c0; have f1 := (HC3.out.below hv HC3.out.lt).c1; have f2 := (HC3.out.below hv HC3.out.lt).c2; have d0 := (HD3.out.below hv HD3.out.lt).c0; have d1 := (HD3.out.below hv HD3.out.lt).c1; have d2 := (HD3.out.below hv HD3.out.lt).c2; have d3 := (HD3.out.below hv HD3.out.lt).c3; have d4 := (HD3.out.below hv HD3.out.lt).c4; have d5 := (HD3.out.below hv HD3.out.lt).c5; go_simp; rfl)); go_simp)
        | (refine w_call ?_ 28 ?_ ?_ ?_ ?_ ?_; (focus (go_simp; done)); rotate_left; (focus (intro v; go_simp; rfl)); rotate_left; (focus (intro v hv; exact q_grow (cholds ⟨kind, num, name⟩ ⟨act, time, client, bytes, space, snap⟩ v HC.out HD.out) (by rfl) hv)); go_simp)
        | (refine w_call ?_ 29 ?_ ?_ ?_ ?_ ?_; (focus (go_simp; done)); rotate_left; (focus (intro v; go_simp; rfl)); rotate_left; (focus (intro v hv; exact q_grow (uholds ⟨kind, num, name⟩ ⟨act, time, client, bytes, space, snap⟩ v HC.out HD.out) (by rfl) hv)); go_simp)
        | (refine w_call ?_ 30 ?_ ?_ ?_ ?_ ?_; (focus (go_simp; done)); rotate_left; (focus (intro v; go_simp; rfl)); rotate_left; (focus (intro v hv; exact q_grow (call_any a len cap L ⟨act, time, client, bytes, space, snap⟩ v ((H.out.mono HB3.out).mono hv) HD.out) (by rfl) hv)); go_simp)
        | (refine w_call ?_ 31 ?_ ?_ ?_ ?_ ?_; (focus (go_simp; done)); rotate_left; (focus (intro v; go_simp; rfl)); rotate_left; (focus (intro v hv; exact q_grow (uall_any a len cap L ⟨act, time, client, bytes, space, snap⟩ v ((H.out.mono HB3.out).mono hv) HD.out) (by rfl) hv)); go_simp)
        | (refine w_call ?_ 22 ?_ ?_ ?_ ?_ ?_; (focus (go_simp; done)); rotate_left; (focus (intro v; go_simp; rfl)); rotate_left; (focus (intro v hv; exact q_grow (awake6 v) (by rfl) hv)); go_simp))
      refine w_nil ?_
      intro w4 hb4
      go_wp2_with fail
      go_ret
      exact ⟨rfl, HB3.out.trans (hb4.mono HB3.out.size)⟩

end Go.Proofs.Ytnmcfokckdgbaaa.W
