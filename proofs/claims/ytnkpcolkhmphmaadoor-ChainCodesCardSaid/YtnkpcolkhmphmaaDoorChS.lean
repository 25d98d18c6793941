/- LAYER 22 (chain): the laws Links and Parts. -/
import Derived.Test.YtnkpcolkhmphmaaDoorChR
set_option linter.unusedSimpArgs false
set_option linter.unusedVariables false
namespace Go.Proofs.YtnkpcolkhmphmaaDoor.W
open Go Go.ChangeShapes Go.WideShapes Go.ChangeAt Go.RowKit
open Go.Proofs.YtnkpcolkhmphmaaDoor.P (enc dec shaL shaL_len)

/-- a chain as it comes in -/
structure ChI (c : Ch) : Prop where
  l : SI64c c.len
  h : c.hd.size ≤ maxLen
section
variable {H : Type} {enc : TypeId × Value → H} {w : World} {base : Nat} {held : Bool}
set_option maxRecDepth 100000 in
theorem ch_open {base' : Nat} {v : Value} {d : DataW H} {pl : List MemPlace} (hv : Value.okWide Tryd.prog w .any base' 23 v) (h : DataW.Trod enc Tryd.prog w base (fun _ => true) held 23 v d pl) : ∃ c : Ch, v = .agg (chC c).toArray ∧ ChI c := by
  obtain ⟨fuel, hf⟩ := h
  obtain ⟨cs, rfl, -⟩ := okWide_struct Tryd.underlying23 hv
  obtain ⟨xs, n, hn, -, hl, hlen, hf⟩ := DataW.trod_struct Tryd.underlying23 hf
  have hcl : Tryd.prog.cellsOf 23 = 2 := by kernel_rfl
  rw [hcl] at hl
  have f0 := hf 0 _ rfl
  have f1 := hf 1 _ rfl
  have c1 : Tryd.prog.cellsOf 3 = 1 := by kernel_rfl
  have c2 : Tryd.prog.cellsOf 9 = 1 := by kernel_rfl
  obtain ⟨zs, hzs⟩ : ∃ zs, (Value.agg cs).cells.toList = zs := ⟨_, rfl⟩
  rw [hzs] at hl f0 f1
  match zs, hl with
  | [v0, v1], _ =>
    match xs, hlen with
    | [x0, x1], _ =>
    simp [c1] at f0
    simp [c1, c2] at f1
    obtain ⟨n0, e0, -, w0⟩ := DataW.trod_int Tryd.underlying3 f0
    obtain ⟨s, e1, -, w1⟩ := DataW.trod_string Tryd.underlying9 f1
    simp at e0 e1
    subst e0 e1
    simp [Value.cells] at hzs
    exact ⟨⟨n0, s⟩, by congr 1; apply Array.ext'; rw [hzs], bd w0, w1⟩
end
set_option maxRecDepth 100000 in
set_option maxHeartbeats 32000000 in
theorem law_ChainLinks (c e : Ch) (ta : Option Addr) (tn tc : Nat) (tz : List Int) (a : Option Addr) (n cp : Nat) (L : List BsX) (w : World) (hK : Ks w) (hc : ChI c) (he : ChI e) (htz : IsRow .u8 w ta tn tc tz) (h : Ls bsE w a n cp L) :
    Calls Tryd.prog 3 #[.agg (chC c).toArray, .agg (chC e).toArray, .slice ta tn tc, .slice a n cp] w fun x w' => x = .returned (.bool true) ∧ Below w.heap.size w w' := by
  have ht := Rd.of_row htz
  obtain ⟨l, hl⟩ : ∃ l, ((tz.take tn).map fun n => UInt8.ofNat n.toNat) = l := ⟨_, rfl⟩
  rw [hl] at ht
  clear hl htz
  have htl := ht.hlen
  have HA := Lib.hid (fun w' (hb : Below w.heap.size w w') => awake22 w' (hK.below hb hK.pos))
  have LZS := Lib.hid ch_size
  obtain ⟨fw, hfw⟩ : ∃ q, few22 L = q := ⟨_, rfl⟩
  have HF := Lib.hid (fun w' (hb : Below w.heap.size w w') => fewc a n cp L w' (h.mono bsOk hb) fw hfw)
  have hmx := ht.hmax
  have hle := ht.hle
  have hch := hc.h
  have heh := he.h
  unfold maxLen at hch heh
  by_cases f1 : c.hd.size ≤ 300
  rotate_left
  · have g1 : (300 : Int) < (c.hd.size : Int) := by omega
    clear h ht hc he hK hfw
    go_enter Tryd.func3, Tryd.ntmps3
    go_wp2_with (first
      | ((with_reducible refine box_row (o := ⟨some 4, _, _, _, _, _⟩) rfl _ _ rfl (chC c) rfl ?_); intro w1 hr hb hz; have RA1 := Lib.hid hr; have B1 := Lib.hid hb; clear hr hb hz)
      | ((with_reducible refine box_row (o := ⟨some 5, _, _, _, _, _⟩) rfl _ _ rfl (chC e) rfl ?_); intro w4 hr hb hz; have RE4 := Lib.hid hr; have RA4 := Lib.hid (RA1.out.below hb RA1.out.lt); have B4 := Lib.hid (B1.out.trans (hb.mono B1.out.size)); obtain ⟨k0, k1⟩ := RA4.out.c2; obtain ⟨m0, m1⟩ := RE4.out.c2; clear hr hb hz)
      | (go_at_call 6; (with_reducible refine (HF.out _ B4.out).mono ?_); rintro x w' ⟨rfl, rfl⟩)
      | (go_at_call 7; (with_reducible refine (HA.out _ B4.out).mono ?_); rintro x wb ⟨rfl, hb⟩; have Bb := Lib.hid (B4.out.trans (hb.mono B4.out.size)); clear hb))
    go_ret
    exact ⟨rfl, Bb.out⟩
  have g1 : ¬ (300 : Int) < (c.hd.size : Int) := by omega
  by_cases f2 : e.hd.size ≤ 300
  rotate_left
  · have g2 : (300 : Int) < (e.hd.size : Int) := by omega
    clear h ht hc he hK hfw
    go_enter Tryd.func3, Tryd.ntmps3
    go_wp2_with (first
      | ((with_reducible refine box_row (o := ⟨some 4, _, _, _, _, _⟩) rfl _ _ rfl (chC c) rfl ?_); intro w1 hr hb hz; have RA1 := Lib.hid hr; have B1 := Lib.hid hb; clear hr hb hz)
      | ((with_reducible refine box_row (o := ⟨some 5, _, _, _, _, _⟩) rfl _ _ rfl (chC e) rfl ?_); intro w4 hr hb hz; have RE4 := Lib.hid hr; have RA4 := Lib.hid (RA1.out.below hb RA1.out.lt); have B4 := Lib.hid (B1.out.trans (hb.mono B1.out.size)); obtain ⟨k0, k1⟩ := RA4.out.c2; obtain ⟨m0, m1⟩ := RE4.out.c2; clear hr hb hz)
      | (go_at_call 6; (with_reducible refine (HF.out _ B4.out).mono ?_); rintro x w' ⟨rfl, rfl⟩)
      | (go_at_call 7; (with_reducible refine (HA.out _ B4.out).mono ?_); rintro x wb ⟨rfl, hb⟩; have Bb := Lib.hid (B4.out.trans (hb.mono B4.out.size)); clear hb))
    go_ret
    exact ⟨rfl, Bb.out⟩
  have g2 : ¬ (300 : Int) < (e.hd.size : Int) := by omega
  by_cases f3 : tn ≤ 1000
  rotate_left
  · have g3 : (1000 : Int) < (tn : Int) := by omega
    clear h ht hc he hK hfw
    go_enter Tryd.func3, Tryd.ntmps3
    go_wp2_with (first
      | ((with_reducible refine box_row (o := ⟨some 4, _, _, _, _, _⟩) rfl _ _ rfl (chC c) rfl ?_); intro w1 hr hb hz; have RA1 := Lib.hid hr; have B1 := Lib.hid hb; clear hr hb hz)
      | ((with_reducible refine box_row (o := ⟨some 5, _, _, _, _, _⟩) rfl _ _ rfl (chC e) rfl ?_); intro w4 hr hb hz; have RE4 := Lib.hid hr; have RA4 := Lib.hid (RA1.out.below hb RA1.out.lt); have B4 := Lib.hid (B1.out.trans (hb.mono B1.out.size)); obtain ⟨k0, k1⟩ := RA4.out.c2; obtain ⟨m0, m1⟩ := RE4.out.c2; clear hr hb hz)
      | (go_at_call 6; (with_reducible refine (HF.out _ B4.out).mono ?_); rintro x w' ⟨rfl, rfl⟩)
      | (go_at_call 7; (with_reducible refine (HA.out _ B4.out).mono ?_); rintro x wb ⟨rfl, hb⟩; have Bb := Lib.hid (B4.out.trans (hb.mono B4.out.size)); clear hb))
    go_ret
    exact ⟨rfl, Bb.out⟩
  have g3 : ¬ (1000 : Int) < (tn : Int) := by omega
  cases fw
  · clear h ht hc he hK hfw
    go_enter Tryd.func3, Tryd.ntmps3
    go_wp2_with (first
      | ((with_reducible refine box_row (o := ⟨some 4, _, _, _, _, _⟩) rfl _ _ rfl (chC c) rfl ?_); intro w1 hr hb hz; have RA1 := Lib.hid hr; have B1 := Lib.hid hb; clear hr hb hz)
      | ((with_reducible refine box_row (o := ⟨some 5, _, _, _, _, _⟩) rfl _ _ rfl (chC e) rfl ?_); intro w4 hr hb hz; have RE4 := Lib.hid hr; have RA4 := Lib.hid (RA1.out.below hb RA1.out.lt); have B4 := Lib.hid (B1.out.trans (hb.mono B1.out.size)); obtain ⟨k0, k1⟩ := RA4.out.c2; obtain ⟨m0, m1⟩ := RE4.out.c2; clear hr hb hz)
      | (go_at_call 6; (with_reducible refine (HF.out _ B4.out).mono ?_); rintro x w' ⟨rfl, rfl⟩)
      | (go_at_call 7; (with_reducible refine (HA.out _ B4.out).mono ?_); rintro x wb ⟨rfl, hb⟩; have Bb := Lib.hid (B4.out.trans (hb.mono B4.out.size)); clear hb))
    go_ret
    exact ⟨rfl, Bb.out⟩
  obtain ⟨hn, hs⟩ := few_len h hfw
  have cf : c.fit := ⟨hc.l, by omega⟩
  have ef : e.fit := ⟨he.l, by omega⟩
  have hlk := link_fit c l cf
  have hal := all_fit L c cf
  have HC1 := Lib.hid (fun w' (hb : Below w.heap.size w w') => chlink c ta tn tc l w' (hK.below hb hK.pos) cf (ht.mono hb) (by omega))
  have HC2 := Lib.hid (fun w' (hb : Below w.heap.size w w') => zclink c ta tn tc l w' cf (ht.mono hb) (by omega))
  have HC3 := Lib.hid (fun w' (hb : Below w.heap.size w w') => chall c a n cp L w' (hK.below hb hK.pos) cf (h.mono bsOk hb) (by omega) (fun x hx => by have := hs x hx; omega))
  have HC4 := Lib.hid (fun w' (hb : Below w.heap.size w w') => zcall c a n cp L w' cf (h.mono bsOk hb) (by omega) (fun x hx => by have := hs x hx; omega))
  obtain ⟨r, hr⟩ : ∃ r : Int, (c.all L = e ∧ r = 0) ∨ (c.all L ≠ e ∧ r = 23) := by
    by_cases hx : c.all L = e
    · exact ⟨0, .inl ⟨hx, rfl⟩⟩
    · exact ⟨23, .inr ⟨hx, rfl⟩⟩
  have HC5 := Lib.hid (fun w' (hb : Below w.heap.size w w') => chcheck c e a n cp L w' (hK.below hb hK.pos) cf ef (h.mono bsOk hb) (by omega) (fun x hx => by have := hs x hx; omega) r hr)
  have HC6 := Lib.hid (fun w' (hb : Below w.heap.size w w') => zccheck c e a n cp L w' cf ef (h.mono bsOk hb) (by omega) (fun x hx => by have := hs x hx; omega) r hr)
  have HQ1 := Lib.hid (fun w => eqCh _ _ hlk hlk true (by simp) w)
  have HQ2 := Lib.hid (fun w => eqCh _ _ hal hal true (by simp) w)
  have HQ3 := Lib.hid (fun w => eqCh _ _ chz_fit chz_fit true (by simp) w)
  obtain ⟨X1, hX1⟩ : ∃ X, (chC (c.link l)).toArray = X := ⟨_, rfl⟩
  obtain ⟨X2, hX2⟩ : ∃ X, (chC (c.all L)).toArray = X := ⟨_, rfl⟩
  obtain ⟨X3, hX3⟩ : ∃ X, (chC chZ).toArray = X := ⟨_, rfl⟩
  have HS1 := Lib.hid (fun w => chstart w)
  have HS2 := Lib.hid (fun w => zcstart w)
  rw [hX1] at HC1 HC2 HQ1
  rw [hX2] at HC3 HC4 HQ2
  rw [hX3] at HS1 HS2 HQ3
  clear h ht hc he hK hfw hlk hal cf ef hr hX1 hX2 hX3 hs
  go_enter Tryd.func3, Tryd.ntmps3
  go_wp2_with (first
    | ((with_reducible refine box_row (o := ⟨some 4, _, _, _, _, _⟩) rfl _ _ rfl (chC c) rfl ?_); intro w1 hr hb hz; have RA1 := Lib.hid hr; have B1 := Lib.hid hb; clear hr hb hz)
    | ((with_reducible refine box_row (o := ⟨some 5, _, _, _, _, _⟩) rfl _ _ rfl (chC e) rfl ?_); intro w4 hr hb hz; have RE4 := Lib.hid hr; have RA4 := Lib.hid (RA1.out.below hb RA1.out.lt); have B4 := Lib.hid (B1.out.trans (hb.mono B1.out.size)); obtain ⟨k0, k1⟩ := RA4.out.c2; obtain ⟨m0, m1⟩ := RE4.out.c2; clear hr hb hz)
    | (go_at_call 6; (with_reducible refine (HF.out _ B4.out).mono ?_); rintro x w' ⟨rfl, rfl⟩))
  refine region_h (fun v => Below w4.heap.size w4 v) (by kernel_rfl) (by kernel_rfl) (Below.refl _ _).drew ?_
  obtain ⟨d0, hd0⟩ : ∃ wd, w4.drew = wd := ⟨_, rfl⟩
  have J0 : Hid (Below w4.heap.size w4 d0) := Lib.hid (by rw [← hd0]; exact (Below.refl _ _).drew)
  rw [hd0]
  clear hd0
  have q1 := HQ1.out
  have q2 := HQ2.out
  have q3 := HQ3.out
  (refine h_read 0 rfl (by kernel_rfl) (by kernel_rfl) (h_free rfl) ?_ ?_ ?_; rotate_left; (focus (intro v hv; refine run_cells 23 (.tmp 4) ?_ w.heap.size 0 ?_ (chC c) _ (fun j' u' hj => by rw [hv.cell (p := ⟨w.heap.size, 0 + j', none⟩) RA4.out.lt, Nat.zero_add, RA4.out.cellV]; exact hj) Tryd.underlying23 rfl ch_size; (focus rfl); go_simp)); go_simp)
  (refine h_read 1 rfl (by kernel_rfl) (by kernel_rfl) (h_free rfl) ?_ ?_ ?_; rotate_left; (focus (intro v hv; go_simp; rfl)); go_simp)
  (refine h_read 3 rfl (by kernel_rfl) (by kernel_rfl) (h_free rfl) ?_ ?_ ?_; rotate_left; (focus (intro v hv; refine run_cells 23 (.tmp 4) ?_ w.heap.size 0 ?_ (chC c) _ (fun j' u' hj => by rw [hv.cell (p := ⟨w.heap.size, 0 + j', none⟩) RA4.out.lt, Nat.zero_add, RA4.out.cellV]; exact hj) Tryd.underlying23 rfl ch_size; (focus rfl); go_simp)); go_simp)
  (refine h_read 4 rfl (by kernel_rfl) (by kernel_rfl) (h_free rfl) ?_ ?_ ?_; rotate_left; (focus (intro v hv; go_simp; rfl)); go_simp)
  (refine h_call 2 rfl (by kernel_rfl) (h_free rfl) 8 ?_ ?_ ?_; rotate_left; (focus (go_simp; rfl)))
  refine (HC1.out d0 (B4.out.trans (J0.out.mono B4.out.size))).mono ?_
  rintro z d1 ⟨rfl, hb⟩
  have J1 := Lib.hid (J0.out.trans (hb.mono J0.out.size))
  clear hb
  refine ⟨_, rfl, J1.out, ?_⟩
  go_simp
  (refine h_call 5 rfl (by kernel_rfl) (h_free rfl) 9 ?_ ?_ ?_; rotate_left; (focus (go_simp; rfl)))
  refine (HC2.out d1 (B4.out.trans (J1.out.mono B4.out.size))).mono ?_
  rintro z d2 ⟨rfl, hb⟩
  have J2 := Lib.hid (J1.out.trans (hb.mono J1.out.size))
  clear hb
  refine ⟨_, rfl, J2.out, ?_⟩
  go_simp
  (refine h_read 6 rfl (by kernel_rfl) (by kernel_rfl) (h_free rfl) ?_ ?_ ?_; rotate_left; (focus (intro v hv; go_simp; rfl)); go_simp)
  (refine h_read 7 rfl (by kernel_rfl) (by kernel_rfl) (h_free rfl) ?_ ?_ ?_; rotate_left; (focus (intro v hv; go_simp; rfl)); go_simp)
  (refine h_read 8 rfl (by kernel_rfl) (by kernel_rfl) ?_ ?_ ?_ ?_; (focus (go_simp; done)); rotate_left; (focus (intro v hv; refine run_cells 23 (.tmp 4) ?_ w.heap.size 0 ?_ (chC c) _ (fun j' u' hj => by rw [hv.cell (p := ⟨w.heap.size, 0 + j', none⟩) RA4.out.lt, Nat.zero_add, RA4.out.cellV]; exact hj) Tryd.underlying23 rfl ch_size; (focus rfl); go_simp)); go_simp)
  (refine h_read 9 rfl (by kernel_rfl) (by kernel_rfl) ?_ ?_ ?_ ?_; (focus (go_simp; done)); rotate_left; (focus (intro v hv; go_simp; rfl)); go_simp)
  (refine h_read 11 rfl (by kernel_rfl) (by kernel_rfl) ?_ ?_ ?_ ?_; (focus (go_simp; done)); rotate_left; (focus (intro v hv; refine run_cells 23 (.tmp 4) ?_ w.heap.size 0 ?_ (chC c) _ (fun j' u' hj => by rw [hv.cell (p := ⟨w.heap.size, 0 + j', none⟩) RA4.out.lt, Nat.zero_add, RA4.out.cellV]; exact hj) Tryd.underlying23 rfl ch_size; (focus rfl); go_simp)); go_simp)
  (refine h_read 12 rfl (by kernel_rfl) (by kernel_rfl) ?_ ?_ ?_ ?_; (focus (go_simp; done)); rotate_left; (focus (intro v hv; go_simp; rfl)); go_simp)
  (refine h_call 10 rfl (by kernel_rfl) ?_ 10 ?_ ?_ ?_; (focus (go_simp; done)); rotate_left; (focus (go_simp; rfl)))
  refine (HC3.out d2 (B4.out.trans (J2.out.mono B4.out.size))).mono ?_
  rintro z d3 ⟨rfl, hb⟩
  have J3 := Lib.hid (J2.out.trans (hb.mono J2.out.size))
  clear hb
  refine ⟨_, rfl, J3.out, ?_⟩
  go_simp
  (refine h_call 13 rfl (by kernel_rfl) ?_ 11 ?_ ?_ ?_; (focus (go_simp; done)); rotate_left; (focus (go_simp; rfl)))
  refine (HC4.out d3 (B4.out.trans (J3.out.mono B4.out.size))).mono ?_
  rintro z d4 ⟨rfl, hb⟩
  have J4 := Lib.hid (J3.out.trans (hb.mono J3.out.size))
  clear hb
  refine ⟨_, rfl, J4.out, ?_⟩
  go_simp
  (refine h_read 14 rfl (by kernel_rfl) (by kernel_rfl) ?_ ?_ ?_ ?_; (focus (go_simp; done)); rotate_left; (focus (intro v hv; go_simp; rfl)); go_simp)
  (refine h_read 15 rfl (by kernel_rfl) (by kernel_rfl) (h_free rfl) ?_ ?_ ?_; rotate_left; (focus (intro v hv; go_simp; rfl)); go_simp)
  (refine h_read 16 rfl (by kernel_rfl) (by kernel_rfl) (h_free rfl) ?_ ?_ ?_; rotate_left; (focus (intro v hv; go_simp; rfl)); go_simp)
  (refine h_read 17 rfl (by kernel_rfl) (by kernel_rfl) ?_ ?_ ?_ ?_; (focus (go_simp; done)); rotate_left; (focus (intro v hv; refine run_cells 23 (.tmp 4) ?_ w.heap.size 0 ?_ (chC c) _ (fun j' u' hj => by rw [hv.cell (p := ⟨w.heap.size, 0 + j', none⟩) RA4.out.lt, Nat.zero_add, RA4.out.cellV]; exact hj) Tryd.underlying23 rfl ch_size; (focus rfl); go_simp)); go_simp)
  (refine h_read 18 rfl (by kernel_rfl) (by kernel_rfl) ?_ ?_ ?_ ?_; (focus (go_simp; done)); rotate_left; (focus (intro v hv; go_simp; rfl)); go_simp)
  (refine h_read 19 rfl (by kernel_rfl) (by kernel_rfl) ?_ ?_ ?_ ?_; (focus (go_simp; done)); rotate_left; (focus (intro v hv; refine run_cells 23 (.tmp 5) ?_ w1.heap.size 0 ?_ (chC e) _ (fun j' u' hj => by rw [hv.cell (p := ⟨w1.heap.size, 0 + j', none⟩) RE4.out.lt, Nat.zero_add, RE4.out.cellV]; exact hj) Tryd.underlying23 rfl ch_size; (focus rfl); go_simp)); go_simp)
  (refine h_read 21 rfl (by kernel_rfl) (by kernel_rfl) ?_ ?_ ?_ ?_; (focus (go_simp; done)); rotate_left; (focus (intro v hv; refine run_cells 23 (.tmp 4) ?_ w.heap.size 0 ?_ (chC c) _ (fun j' u' hj => by rw [hv.cell (p := ⟨w.heap.size, 0 + j', none⟩) RA4.out.lt, Nat.zero_add, RA4.out.cellV]; exact hj) Tryd.underlying23 rfl ch_size; (focus rfl); go_simp)); go_simp)
  (refine h_read 22 rfl (by kernel_rfl) (by kernel_rfl) ?_ ?_ ?_ ?_; (focus (go_simp; done)); rotate_left; (focus (intro v hv; go_simp; rfl)); go_simp)
  (refine h_read 23 rfl (by kernel_rfl) (by kernel_rfl) ?_ ?_ ?_ ?_; (focus (go_simp; done)); rotate_left; (focus (intro v hv; refine run_cells 23 (.tmp 5) ?_ w1.heap.size 0 ?_ (chC e) _ (fun j' u' hj => by rw [hv.cell (p := ⟨w1.heap.size, 0 + j', none⟩) RE4.out.lt, Nat.zero_add, RE4.out.cellV]; exact hj) Tryd.underlying23 rfl ch_size; (focus rfl); go_simp)); go_simp)
  (refine h_call 20 rfl (by kernel_rfl) ?_ 12 ?_ ?_ ?_; (focus (go_simp; done)); rotate_left; (focus (go_simp; rfl)))
  refine (HC5.out d4 (B4.out.trans (J4.out.mono B4.out.size))).mono ?_
  rintro z d5 ⟨rfl, hb⟩
  have J5 := Lib.hid (J4.out.trans (hb.mono J4.out.size))
  clear hb
  refine ⟨_, rfl, J5.out, ?_⟩
  go_simp
  (refine h_call 24 rfl (by kernel_rfl) ?_ 13 ?_ ?_ ?_; (focus (go_simp; done)); rotate_left; (focus (go_simp; rfl)))
  refine (HC6.out d5 (B4.out.trans (J5.out.mono B4.out.size))).mono ?_
  rintro z d6 ⟨rfl, hb⟩
  have J6 := Lib.hid (J5.out.trans (hb.mono J5.out.size))
  clear hb
  refine ⟨_, rfl, J6.out, ?_⟩
  go_simp
  (refine h_read 25 rfl (by kernel_rfl) (by kernel_rfl) ?_ ?_ ?_ ?_; (focus (go_simp; done)); rotate_left; (focus (intro v hv; go_simp; rfl)); go_simp)
  (refine h_read 26 rfl (by kernel_rfl) (by kernel_rfl) (h_free rfl) ?_ ?_ ?_; rotate_left; (focus (intro v hv; go_simp; rfl)); go_simp)
  (refine h_read 27 rfl (by kernel_rfl) (by kernel_rfl) (h_free rfl) ?_ ?_ ?_; rotate_left; (focus (intro v hv; go_simp; rfl)); go_simp)
  (refine h_call 28 rfl (by kernel_rfl) ?_ 14 ?_ ?_ ?_; (focus (go_simp; done)); rotate_left; (focus (go_simp; rfl)))
  refine (HS1.out d6).mono ?_
  rintro z d7 ⟨rfl, hb⟩
  have J7 := Lib.hid (J6.out.trans (hb.mono J6.out.size))
  clear hb
  refine ⟨_, rfl, J7.out, ?_⟩
  go_simp
  (refine h_call 29 rfl (by kernel_rfl) ?_ 15 ?_ ?_ ?_; (focus (go_simp; done)); rotate_left; (focus (go_simp; rfl)))
  refine (HS2.out d7).mono ?_
  rintro z d8 ⟨rfl, hb⟩
  have J8 := Lib.hid (J7.out.trans (hb.mono J7.out.size))
  clear hb
  refine ⟨_, rfl, J8.out, ?_⟩
  go_simp
  (refine h_read 30 rfl (by kernel_rfl) (by kernel_rfl) ?_ ?_ ?_ ?_; (focus (go_simp; done)); rotate_left; (focus (intro v hv; go_simp; rfl)); go_simp)
  (refine h_read 31 rfl (by kernel_rfl) (by kernel_rfl) (h_free rfl) ?_ ?_ ?_; rotate_left; (focus (intro v hv; go_simp; rfl)); go_simp)
  (refine h_read 32 rfl (by kernel_rfl) (by kernel_rfl) (h_free rfl) ?_ ?_ ?_; rotate_left; (focus (intro v hv; go_simp; rfl)); go_simp)
  (refine h_call 33 rfl (by kernel_rfl) ?_ 7 ?_ ?_ ?_; (focus (go_simp; done)); rotate_left; (focus (go_simp; rfl)))
  refine (HA.out d8 (B4.out.trans (J8.out.mono B4.out.size))).mono ?_
  rintro z d9 ⟨rfl, hb⟩
  have J9 := Lib.hid (J8.out.trans (hb.mono J8.out.size))
  clear hb
  refine ⟨_, rfl, J9.out, ?_⟩
  go_simp
  (refine h_read 34 rfl (by kernel_rfl) (by kernel_rfl) (h_free rfl) ?_ ?_ ?_; rotate_left; (focus (intro v hv; go_simp; rfl)); go_simp)
  (refine h_read 35 rfl (by kernel_rfl) (by kernel_rfl) (h_free rfl) ?_ ?_ ?_; rotate_left; (focus (intro v hv; go_simp; rfl)); go_simp)
  refine h_done (by kernel_rfl) ?_
  have BF := Lib.hid (B4.out.trans (J9.out.mono B4.out.size))
  clear q1 q2 q3
  go_wp2_with fail
  go_ret
  exact ⟨by first | rfl | exact one (vbool (by simp)), BF.out⟩
set_option maxRecDepth 100000 in
set_option maxHeartbeats 32000000 in
theorem law_ChainParts (c : Ch) (a : Option Addr) (n cp : Nat) (L : List BsX) (a2 : Option Addr) (n2 cp2 : Nat) (M : List BsX) (w : World) (hK : Ks w) (hc : ChI c) (h : Ls bsE w a n cp L) (h2 : Ls bsE w a2 n2 cp2 M) :
    Calls Tryd.prog 4 #[.agg (chC c).toArray, .slice a n cp, .slice a2 n2 cp2] w fun x w' => x = .returned (.bool true) ∧ Below w.heap.size w w' := by
  have HA := Lib.hid (fun w' (hb : Below w.heap.size w w') => awake22 w' (hK.below hb hK.pos))
  have LZS := Lib.hid ch_size
  have LZ := Lib.hid ch_zero
  obtain ⟨fw, hfw⟩ : ∃ q, few22 L = q := ⟨_, rfl⟩
  obtain ⟨fx, hfx⟩ : ∃ q, few22 M = q := ⟨_, rfl⟩
  have HF := Lib.hid (fun w' (hb : Below w.heap.size w w') => fewc a n cp L w' (h.mono bsOk hb) fw hfw)
  have HG := Lib.hid (fun w' (hb : Below w.heap.size w w') => fewc a2 n2 cp2 M w' (h2.mono bsOk hb) fx hfx)
  have hch := hc.h
  unfold maxLen at hch
  by_cases f1 : c.hd.size ≤ 300
  rotate_left
  · have g1 : (300 : Int) < (c.hd.size : Int) := by omega
    clear h h2 hc hK hfw hfx
    go_enter Tryd.func4, Tryd.ntmps4
    go_wp2_with (first
      | ((with_reducible refine box_row (o := ⟨some 3, _, _, _, _, _⟩) rfl _ _ rfl (chC c) rfl ?_); intro w4 hr hb hz; have RA4 := Lib.hid hr; have B4 := Lib.hid hb; obtain ⟨k0, k1⟩ := hr.c2; clear hr hb hz)
      | (go_at_call 6; (first | (with_reducible refine (HF.out _ B4.out).mono ?_) | (with_reducible refine (HG.out _ B4.out).mono ?_)); rintro x w' ⟨rfl, rfl⟩)
      | (go_at_call 7; (with_reducible refine (HA.out _ B4.out).mono ?_); rintro x wb ⟨rfl, hb⟩; have Bb := Lib.hid (B4.out.trans (hb.mono B4.out.size)); clear hb))
    go_ret
    exact ⟨rfl, Bb.out⟩
  have g1 : ¬ (300 : Int) < (c.hd.size : Int) := by omega
  cases fw
  · clear h h2 hc hK hfw hfx
    go_enter Tryd.func4, Tryd.ntmps4
    go_wp2_with (first
      | ((with_reducible refine box_row (o := ⟨some 3, _, _, _, _, _⟩) rfl _ _ rfl (chC c) rfl ?_); intro w4 hr hb hz; have RA4 := Lib.hid hr; have B4 := Lib.hid hb; obtain ⟨k0, k1⟩ := hr.c2; clear hr hb hz)
      | (go_at_call 6; (first | (with_reducible refine (HF.out _ B4.out).mono ?_) | (with_reducible refine (HG.out _ B4.out).mono ?_)); rintro x w' ⟨rfl, rfl⟩)
      | (go_at_call 7; (with_reducible refine (HA.out _ B4.out).mono ?_); rintro x wb ⟨rfl, hb⟩; have Bb := Lib.hid (B4.out.trans (hb.mono B4.out.size)); clear hb))
    go_ret
    exact ⟨rfl, Bb.out⟩
  cases fx
  · clear h h2 hc hK hfw hfx
    go_enter Tryd.func4, Tryd.ntmps4
    go_wp2_with (first
      | ((with_reducible refine box_row (o := ⟨some 3, _, _, _, _, _⟩) rfl _ _ rfl (chC c) rfl ?_); intro w4 hr hb hz; have RA4 := Lib.hid hr; have B4 := Lib.hid hb; obtain ⟨k0, k1⟩ := hr.c2; clear hr hb hz)
      | (go_at_call 6; (first | (with_reducible refine (HF.out _ B4.out).mono ?_) | (with_reducible refine (HG.out _ B4.out).mono ?_)); rintro x w' ⟨rfl, rfl⟩)
      | (go_at_call 7; (with_reducible refine (HA.out _ B4.out).mono ?_); rintro x wb ⟨rfl, hb⟩; have Bb := Lib.hid (B4.out.trans (hb.mono B4.out.size)); clear hb))
    go_ret
    exact ⟨rfl, Bb.out⟩
  obtain ⟨hn, hs⟩ := few_len h hfw
  obtain ⟨hn2, hs2⟩ := few_len h2 hfx
  have cf : c.fit := ⟨hc.l, by omega⟩
  have hal := all_fit L c cf
  have hal2 := all_fit M _ hal
  have hsa : ∀ x ∈ L ++ M, x.l.length ≤ 100000 := fun x hx => by
    rcases List.mem_append.1 hx with hx | hx
    · have := hs x hx; omega
    · have := hs2 x hx; omega
  have happ := all_app c L M
  have HC0 := Lib.hid (fun w' (hb : Below w.heap.size w w') => bsclone a n cp L w' (h.mono bsOk hb) (by omega))
  have HC1 := Lib.hid (fun w' (hb : Below w.heap.size w w') => chall c a n cp L w' (hK.below hb hK.pos) cf (h.mono bsOk hb) (by omega) (fun x hx => by have := hs x hx; omega))
  have HC2 := Lib.hid (fun w' (hb : Below w.heap.size w w') => chall (c.all L) a2 n2 cp2 M w' (hK.below hb hK.pos) hal (h2.mono bsOk hb) (by omega) (fun x hx => by have := hs2 x hx; omega))
  have HC3 := Lib.hid (fun a' n' c' w' (hb : Below w.heap.size w w') (hl : Ls bsE w' a' n' c' (L ++ M)) (hn' : n' ≤ 100) => chall c a' n' c' (L ++ M) w' (hK.below hb hK.pos) cf hl hn' hsa)
  have HC4 := Lib.hid (fun a' n' c' w' (hb : Below w.heap.size w w') (hl : Ls bsE w' a' n' c' (L ++ M)) (hn' : n' ≤ 100) => chcheck c ((c.all L).all M) a' n' c' (L ++ M) w' (hK.below hb hK.pos) cf hal2 hl hn' hsa 0 (.inl ⟨happ, rfl⟩))
  rw [happ] at HC3
  have HQ1 := Lib.hid (fun w => eqCh _ _ hal2 hal2 true (by simp) w)
  obtain ⟨q, hq⟩ : ∃ q, (c.all L).all M = q := ⟨_, rfl⟩
  rw [hq] at HC2 HC3 HC4 HQ1
  obtain ⟨X, hX⟩ : ∃ X, (chC q).toArray = X := ⟨_, rfl⟩
  have HX := Lib.hid hX
  rw [hX] at HC2 HC3 HC4 HQ1
  have HFM := Lib.hid (fun w' (hb : Below w.heap.size w w') => h2.mono bsOk hb)
  have HLL := Lib.hid (show L.length + n2 ≤ 100 by rw [h.hlen]; omega)
  have HLM := Lib.hid h2.hlen
  have HFT := Lib.hid (fun w' (hb : Below w.heap.size w w') => (show ∀ x ∈ L ++ M, bsE.fit w' x from fun x hx => by
    rcases List.mem_append.1 hx with hx | hx
    · exact (h.mono bsOk hb).hfit x hx
    · exact (h2.mono bsOk hb).hfit x hx))
  obtain ⟨X0, hX0⟩ : ∃ X0, (chC (c.all L)).toArray = X0 := ⟨_, rfl⟩
  rw [hX0] at HC1 HC2
  clear h h2 hc hK hfw hfx hal hal2 cf hsa happ hq hX hX0 hs hs2
  go_enter Tryd.func4, Tryd.ntmps4
  go_wp2_with (first
    | ((with_reducible refine box_row (o := ⟨some 3, _, _, _, _, _⟩) rfl _ _ rfl (chC c) rfl ?_); intro w4 hr hb hz; have RA4 := Lib.hid hr; have B4 := Lib.hid hb; obtain ⟨k0, k1⟩ := hr.c2; clear hr hb hz)
    | (go_at_call 6; (first | (with_reducible refine (HF.out _ B4.out).mono ?_) | (with_reducible refine (HG.out _ B4.out).mono ?_)); rintro x w' ⟨rfl, rfl⟩)
    | (go_at_call 16; (with_reducible refine (HC0.out w4 B4.out).mono ?_); rintro x w5 ⟨v5, rfl, hf, hb⟩; have O5 := Lib.hid (hf.base B4.out.size); have RA5 := Lib.hid (RA4.out.below hb RA4.out.lt); have B5 := Lib.hid (B4.out.trans (hb.mono B4.out.size)); have N5 := Lib.hid (show ∀ g, v5.ownBlock = some g → w4.heap.size ≤ g from fun g hg => (World.ownsRow.lt hf g hg).1); clear hf hb)
    | ((with_reducible refine append_ls bsOk (o := ⟨some 27, _, _, _, _, _⟩) rfl _ _ rfl w.heap.size v5 L ?_ O5.out a2 n2 cp2 M ?_ (HFM.out w5 B5.out) ?_ B5.out.size ?_); (focus (first | (go_simp; done) | (go_simp; rfl))); (focus (first | (go_simp; done) | (go_simp; rfl))); (focus (have := HLL.out; omega)); intro v6 w6 hN hb hg hv; have hfit6 := HFT.out w6 (B5.out.trans hb); obtain ⟨a6, c6, hv6, hl6, -⟩ := hN.ls bsOk hfit6; obtain ⟨nn, hnn⟩ : ∃ nn, (L ++ M).length = nn := ⟨_, rfl⟩; rw [hnn] at hv6 hl6; subst hv6; have HNN := Lib.hid (show nn ≤ 100 by rw [← hnn, List.length_append, HLM.out]; exact HLL.out); have L6 := Lib.hid hl6; have RA6 := Lib.hid (show Row w6 w.heap.size 23 _ from (hg.block _ RA5.out.lt (fun e => absurd (N5.out _ e.symm) (Nat.not_le_of_lt RA4.out.lt))).trans RA5.out); have B6 := Lib.hid (B5.out.trans hb); clear hN hb hg hv hl6 hfit6 hnn)
    | ((with_reducible refine load_row (o := ⟨some 28, _, _, _, _, _⟩) rfl _ _ rfl w.heap.size ?_ _ (chC c) _ RA6.out Tryd.underlying23 rfl ?_ ?_); (focus go_simp); (focus (exact LZS.out)))
    | (go_at_call 10; (with_reducible refine (HC1.out w6 B6.out).mono ?_); rintro x w7 ⟨rfl, hb⟩; have L7 := Lib.hid (L6.out.mono bsOk hb); have RA7 := Lib.hid (RA6.out.below hb RA6.out.lt); have B7 := Lib.hid (B6.out.trans (hb.mono B6.out.size)); clear hb)
    | (go_at_call 10; (with_reducible refine (HC2.out w7 B7.out).mono ?_); rintro x w8 ⟨rfl, hb⟩; have L8 := Lib.hid (L7.out.mono bsOk hb); have RA8 := Lib.hid (RA7.out.below hb RA7.out.lt); have B8 := Lib.hid (B7.out.trans (hb.mono B7.out.size)); clear hb)
    | ((with_reducible refine alloc_row (o := ⟨some 8, _, _, _, _, _⟩) rfl _ rfl _ LZ.out ?_); intro w9 hr hb hz; have R9 := Lib.hid hr; have L9 := Lib.hid (L8.out.mono bsOk hb); have RA9 := Lib.hid (RA8.out.below hb RA8.out.lt); have B9 := Lib.hid (B8.out.trans (hb.mono B8.out.size)); have D9 := Lib.hid hb; clear hr hb hz)
    | ((with_reducible refine store_row (o := ⟨none, _, _, _, _, _⟩) rfl _ (.tmp 8) _ rfl w8.heap.size (chC q) ?_ ?_ 23 _ R9.out ?_ ?_ ?_ ?_); (focus go_simp); (focus (go_simp; first | exact HX.out.symm | exact congrArg Value.agg HX.out.symm | (rw [HX.out]))); (focus (exact LZS.out)); (focus rfl); (focus (exact ch_one _)); intro w10 hr hu; have R10 := Lib.hid hr; have D10 := Lib.hid (D9.out.trans (hu.below (Nat.le_refl _))); have L10 := Lib.hid (L8.out.mono bsOk D10.out); have RA10 := Lib.hid (RA8.out.below D10.out RA8.out.lt); have B10 := Lib.hid (B8.out.trans (D10.out.mono B8.out.size)); clear hr hu))
  refine region_h (fun v => Below w10.heap.size w10 v) (by kernel_rfl) (by kernel_rfl) (Below.refl _ _).drew ?_
  obtain ⟨d0, hd0⟩ : ∃ wd, w10.drew = wd := ⟨_, rfl⟩
  have J0 : Hid (Below w10.heap.size w10 d0) := Lib.hid (by rw [← hd0]; exact (Below.refl _ _).drew)
  rw [hd0]
  clear hd0
  have q1 := HQ1.out
  (refine h_read 0 rfl (by kernel_rfl) (by kernel_rfl) (h_free rfl) ?_ ?_ ?_; rotate_left; (focus (intro v hv; refine run_cells 23 (.tmp 3) ?_ w.heap.size 0 ?_ (chC c) _ (fun j' u' hj => by rw [hv.cell (p := ⟨w.heap.size, 0 + j', none⟩) RA10.out.lt, Nat.zero_add, RA10.out.cellV]; exact hj) Tryd.underlying23 rfl ch_size; (focus rfl); go_simp)); go_simp)
  (refine h_read 1 rfl (by kernel_rfl) (by kernel_rfl) (h_free rfl) ?_ ?_ ?_; rotate_left; (focus (intro v hv; go_simp; rfl)); go_simp)
  (refine h_read 3 rfl (by kernel_rfl) (by kernel_rfl) (h_free rfl) ?_ ?_ ?_; rotate_left; (focus (intro v hv; refine run_cells 23 (.tmp 8) ?_ w8.heap.size 0 ?_ (chC q) _ (fun j' u' hj => by rw [hv.cell (p := ⟨w8.heap.size, 0 + j', none⟩) R10.out.lt, Nat.zero_add, R10.out.cellV]; exact hj) Tryd.underlying23 rfl ch_size; (focus rfl); go_simp)); rw [HX.out]; go_simp)
  (refine h_call 2 rfl (by kernel_rfl) (h_free rfl) 10 ?_ ?_ ?_; rotate_left; (focus (go_simp; rfl)))
  refine (HC3.out a6 nn c6 d0 (B10.out.trans (J0.out.mono B10.out.size)) (L10.out.mono bsOk J0.out) HNN.out).mono ?_
  rintro z d1 ⟨rfl, hb⟩
  have J1 := Lib.hid (J0.out.trans (hb.mono J0.out.size))
  clear hb
  refine ⟨_, rfl, J1.out, ?_⟩
  go_simp
  (refine h_read 4 rfl (by kernel_rfl) (by kernel_rfl) (h_free rfl) ?_ ?_ ?_; rotate_left; (focus (intro v hv; go_simp; rfl)); go_simp)
  (refine h_read 5 rfl (by kernel_rfl) (by kernel_rfl) (h_free rfl) ?_ ?_ ?_; rotate_left; (focus (intro v hv; go_simp; rfl)); go_simp)
  (refine h_read 6 rfl (by kernel_rfl) (by kernel_rfl) ?_ ?_ ?_ ?_; (focus (go_simp; done)); rotate_left; (focus (intro v hv; refine run_cells 23 (.tmp 3) ?_ w.heap.size 0 ?_ (chC c) _ (fun j' u' hj => by rw [hv.cell (p := ⟨w.heap.size, 0 + j', none⟩) RA10.out.lt, Nat.zero_add, RA10.out.cellV]; exact hj) Tryd.underlying23 rfl ch_size; (focus rfl); go_simp)); go_simp)
  (refine h_read 7 rfl (by kernel_rfl) (by kernel_rfl) ?_ ?_ ?_ ?_; (focus (go_simp; done)); rotate_left; (focus (intro v hv; go_simp; rfl)); go_simp)
  (refine h_read 8 rfl (by kernel_rfl) (by kernel_rfl) ?_ ?_ ?_ ?_; (focus (go_simp; done)); rotate_left; (focus (intro v hv; refine run_cells 23 (.tmp 8) ?_ w8.heap.size 0 ?_ (chC q) _ (fun j' u' hj => by rw [hv.cell (p := ⟨w8.heap.size, 0 + j', none⟩) R10.out.lt, Nat.zero_add, R10.out.cellV]; exact hj) Tryd.underlying23 rfl ch_size; (focus rfl); go_simp)); rw [HX.out]; go_simp)
  (refine h_call 9 rfl (by kernel_rfl) ?_ 12 ?_ ?_ ?_; (focus (go_simp; done)); rotate_left; (focus (go_simp; rfl)))
  refine (HC4.out a6 nn c6 d1 (B10.out.trans (J1.out.mono B10.out.size)) (L10.out.mono bsOk J1.out) HNN.out).mono ?_
  rintro z d2 ⟨rfl, hb⟩
  have J2 := Lib.hid (J1.out.trans (hb.mono J1.out.size))
  clear hb
  refine ⟨_, rfl, J2.out, ?_⟩
  go_simp
  (refine h_read 10 rfl (by kernel_rfl) (by kernel_rfl) ?_ ?_ ?_ ?_; (focus (go_simp; done)); rotate_left; (focus (intro v hv; go_simp; rfl)); go_simp)
  (refine h_read 11 rfl (by kernel_rfl) (by kernel_rfl) (h_free rfl) ?_ ?_ ?_; rotate_left; (focus (intro v hv; go_simp; rfl)); go_simp)
  (refine h_read 12 rfl (by kernel_rfl) (by kernel_rfl) (h_free rfl) ?_ ?_ ?_; rotate_left; (focus (intro v hv; go_simp; rfl)); go_simp)
  (refine h_call 13 rfl (by kernel_rfl) ?_ 7 ?_ ?_ ?_; (focus (go_simp; done)); rotate_left; (focus (go_simp; rfl)))
  refine (HA.out d2 (B10.out.trans (J2.out.mono B10.out.size))).mono ?_
  rintro z d3 ⟨rfl, hb⟩
  have J3 := Lib.hid (J2.out.trans (hb.mono J2.out.size))
  clear hb
  refine ⟨_, rfl, J3.out, ?_⟩
  go_simp
  (refine h_read 14 rfl (by kernel_rfl) (by kernel_rfl) (h_free rfl) ?_ ?_ ?_; rotate_left; (focus (intro v hv; go_simp; rfl)); go_simp)
  (refine h_read 15 rfl (by kernel_rfl) (by kernel_rfl) (h_free rfl) ?_ ?_ ?_; rotate_left; (focus (intro v hv; go_simp; rfl)); go_simp)
  refine h_done (by kernel_rfl) ?_
  have BF := Lib.hid (B10.out.trans (J3.out.mono B10.out.size))
  clear q1
  go_wp2_with fail
  go_ret
  exact ⟨by first | rfl | exact one (vbool (by simp)), BF.out⟩
end Go.Proofs.YtnkpcolkhmphmaaDoor.W
