/- LAYER 23 (command): the law CommandDeeds. -/
import Derived.Test.YtmacjpgeamlmhaaCmD
import Derived.Test.YtmacjpgeamlmhaaCmI
set_option linter.unusedSimpArgs false
set_option linter.unusedVariables false
namespace Go.Proofs.Ytmacjpgeamlmhaa.W
open Go Go.ChangeShapes Go.WideShapes Go.ChangeAt Go.RowKit
open Go.Proofs.Ytmacjpgeamlmhaa.S

theorem act_si (k : Int) : SI64 (actC k) := by unfold actC; (repeat' split) <;> exact ⟨by decide, by decide⟩
theorem byt_si {w : World} {x : CmX} (h : x.fit w) : SI64 (bytC x.m) := by
  unfold bytC
  split
  · exact h.by'
  · split
    · unfold bytesM
      split
      · rename_i h1
        have := sumM_lim _ h1.2
        have h8 := h1.1
        exact ⟨by dsimp only; omega, by dsimp only; omega⟩
      · exact ⟨by decide, by decide⟩
    · exact ⟨by decide, by decide⟩
set_option maxRecDepth 100000 in
theorem eqDd (d : Dd) (hd : d.fit) (w : World) : (Op.equalIn 10000 40 d.val d.val).run Try.prog w = .ok true w := by
  have key : Try.prog.keyLits 3 40 (Value.agg (ddC d.action d.time d.client d.bytes d.space d.snap).toArray).cells.toList = some [Lit.int .i64 d.action, Lit.int .i64 d.time, Lit.int .i64 d.client, Lit.int .i64 d.bytes, Lit.string d.space.data.toList, Lit.string d.snap.data.toList] := by
    have e1 := i64_wf hd.1
    have e2 := i64_wf hd.2.1
    have e3 := i64_wf hd.2.2.1
    have e4 := i64_wf hd.2.2.2.1
    have c6 : Try.prog.cellsOf 40 = 6 := by kernel_rfl
    have ci : Try.prog.cellsOf 3 = 1 := by kernel_rfl
    have cs : Try.prog.cellsOf 9 = 1 := by kernel_rfl
    have hs := hd.2.2.2.2.1
    have hn := hd.2.2.2.2.2
    simp [Program.keyLits, Value.cells, Try.underlying40, Try.underlying3, Try.underlying9, c6, ci, cs, e1, e2, e3, e4, hs, hn]
  obtain ⟨r, hr, hiff⟩ := run_equalIn_deep (P := Try.prog) 9998 2 40 (by kernel_rfl) w 6 6 (.agg _) (.agg _) _ _ rfl rfl key key
  have : r = true := hiff.2 rfl
  rw [this] at hr
  exact hr
set_option maxRecDepth 100000 in
set_option maxHeartbeats 16000000 in
theorem law_CommandDeeds (x : CmX) (time kind : Int) (w : World) (h : x.fit w) (ht0 : (Lit.int .i64 time).wf = true) (_hk0 : (Lit.int .i64 kind).wf = true) : Calls Try.prog 5 #[x.val, .int .i64 time, .int .i64 kind] w fun e w' => e = .returned (.bool true) ∧ Below w.heap.size w w' := by
  have HF := Lib.hid (fun w' (hb : Below w.heap.size w w') => few23 x w' (h.mono hb))
  have ht : SI64 time := bd ht0
  clear ht0 _hk0
  have HA := Lib.hid (fun w => awake23 w)
  have hsp := h.sp
  have hnm := h.nm
  have HQ := Lib.hid (fun w => eqDd (deedC x.m time) ⟨act_si _, ht, h.cl, byt_si h, hsp, hnm⟩ w)
  have HD1 := Lib.hid (fun w' (hb : Below w.heap.size w w') => cmdeed x time w' (h.mono hb))
  have HD2 := Lib.hid (fun w' (hb : Below w.heap.size w w') => zkdeed x time w' (h.mono hb))
  obtain ⟨X, hX⟩ : ∃ X : Array Value, (deedC x.m time).val = .agg X := ⟨_, rfl⟩
  rw [hX] at HQ HD1 HD2
  obtain ⟨F, hF⟩ : ∃ F, fewCm x.m = F := ⟨_, rfl⟩
  rw [hF] at HF
  obtain ⟨⟨cl, sq, kd, id, ep, V, sp, nm, nu, by1, ti, PL⟩, va, vn, vc, pa, pn, pc⟩ := x
  have CZ := Lib.hid cm_size
  try dsimp only at HF HD1 HD2
  clear h ht hX hF hsp hnm
  cases F
  · go_enter Try.func5, Try.ntmps5
    go_wp2_with (first
      | ((with_reducible refine box_row (o := ⟨some 3, _, _, _, _, _⟩) rfl _ _ rfl (cmC cl sq kd id ep va vn vc sp nm nu by1 ti pa pn pc) rfl ?_); intro w1 hr hb hz; have X1 := Lib.hid hr; have B1 := Lib.hid hb; clear hr hb hz)
      | ((with_reducible refine load_row (o := ⟨some 7, _, _, _, _, _⟩) rfl _ _ rfl w.heap.size ?_ _ (cmC cl sq kd id ep va vn vc sp nm nu by1 ti pa pn pc) _ X1.out Try.underlying25 rfl ?_ ?_); (focus go_simp); (focus (exact CZ.out)))
      | (go_at_call 7; (with_reducible refine (HF.out w1 B1.out).mono ?_); rintro z w2 ⟨rfl, hb⟩; have B2 := Lib.hid (B1.out.trans (hb.mono B1.out.size)); clear hb)
      | (go_at_call 8; (with_reducible refine (HA.out w2).mono ?_); rintro z w3 ⟨rfl, hb⟩; have B3 := Lib.hid (B2.out.trans (hb.mono B2.out.size)); clear hb))
    go_ret
    exact ⟨rfl, B3.out⟩
  · go_enter Try.func5, Try.ntmps5
    go_wp2_with (first
      | ((with_reducible refine box_row (o := ⟨some 3, _, _, _, _, _⟩) rfl _ _ rfl (cmC cl sq kd id ep va vn vc sp nm nu by1 ti pa pn pc) rfl ?_); intro w1 hr hb hz; have X1 := Lib.hid hr; have B1 := Lib.hid hb; clear hr hb hz)
      | ((with_reducible refine load_row (o := ⟨some 7, _, _, _, _, _⟩) rfl _ _ rfl w.heap.size ?_ _ (cmC cl sq kd id ep va vn vc sp nm nu by1 ti pa pn pc) _ X1.out Try.underlying25 rfl ?_ ?_); (focus go_simp); (focus (exact CZ.out)))
      | (go_at_call 7; (with_reducible refine (HF.out w1 B1.out).mono ?_); rintro z w2 ⟨rfl, hb⟩; have X2 := Lib.hid (X1.out.below hb X1.out.lt); have B2 := Lib.hid (B1.out.trans (hb.mono B1.out.size)); clear hb))
    refine region_h (fun v => Below w2.heap.size w2 v) (by kernel_rfl) (by kernel_rfl) (Below.refl _ _).drew ?_
    obtain ⟨d0, hd0⟩ : ∃ wd, w2.drew = wd := ⟨_, rfl⟩
    have J0 : Hid (Below w2.heap.size w2 d0) := Lib.hid (by rw [← hd0]; exact (Below.refl _ _).drew)
    rw [hd0]
    clear hd0
    have hq := HQ.out
    (refine h_read 0 rfl (by kernel_rfl) (by kernel_rfl) (h_free rfl) ?_ ?_ ?_; rotate_left; (focus (intro v hv; refine run_cells 25 (.tmp 3) ?_ w.heap.size 0 ?_ (cmC cl sq kd id ep va vn vc sp nm nu by1 ti pa pn pc) _ (fun j' u' hj => by rw [hv.cell (p := ⟨w.heap.size, 0 + j', none⟩) X2.out.lt, Nat.zero_add, X2.out.cellV]; exact hj) Try.underlying25 rfl cm_size; (focus rfl); go_simp)); go_simp)
    (refine h_read 1 rfl (by kernel_rfl) (by kernel_rfl) (h_free rfl) ?_ ?_ ?_; rotate_left; (focus (intro v hv; go_simp; rfl)); go_simp)
    (refine h_read 3 rfl (by kernel_rfl) (by kernel_rfl) (h_free rfl) ?_ ?_ ?_; rotate_left; (focus (intro v hv; refine run_cells 25 (.tmp 3) ?_ w.heap.size 0 ?_ (cmC cl sq kd id ep va vn vc sp nm nu by1 ti pa pn pc) _ (fun j' u' hj => by rw [hv.cell (p := ⟨w.heap.size, 0 + j', none⟩) X2.out.lt, Nat.zero_add, X2.out.cellV]; exact hj) Try.underlying25 rfl cm_size; (focus rfl); go_simp)); go_simp)
    (refine h_read 4 rfl (by kernel_rfl) (by kernel_rfl) (h_free rfl) ?_ ?_ ?_; rotate_left; (focus (intro v hv; go_simp; rfl)); go_simp)
    (refine h_call 2 rfl (by kernel_rfl) (h_free rfl) 18 ?_ ?_ ?_; rotate_left; (focus (go_simp; rfl)))
    refine (HD1.out d0 (B2.out.trans (J0.out.mono B2.out.size))).mono ?_
    rintro z d1 ⟨rfl, hb⟩
    have J1 := Lib.hid (J0.out.trans (hb.mono J0.out.size))
    clear hb
    refine ⟨_, rfl, J1.out, ?_⟩
    go_simp
    (refine h_call 5 rfl (by kernel_rfl) (h_free rfl) 19 ?_ ?_ ?_; rotate_left; (focus (go_simp; rfl)))
    refine (HD2.out d1 (B2.out.trans (J1.out.mono B2.out.size))).mono ?_
    rintro z d2 ⟨rfl, hb⟩
    have J2 := Lib.hid (J1.out.trans (hb.mono J1.out.size))
    clear hb
    refine ⟨_, rfl, J2.out, ?_⟩
    go_simp
    (refine h_read 6 rfl (by kernel_rfl) (by kernel_rfl) (h_free rfl) ?_ ?_ ?_; rotate_left; (focus (intro v hv; go_simp; rfl)); go_simp)
    (refine h_read 7 rfl (by kernel_rfl) (by kernel_rfl) (h_free rfl) ?_ ?_ ?_; rotate_left; (focus (intro v hv; go_simp; rfl)); go_simp)
    (refine h_read 8 rfl (by kernel_rfl) (by kernel_rfl) ?_ ?_ ?_ ?_; (focus (go_simp; done)); rotate_left; (focus (intro v hv; go_simp; rfl)); go_simp)
    (refine h_read 10 rfl (by kernel_rfl) (by kernel_rfl) ?_ ?_ ?_ ?_; (focus (go_simp; done)); rotate_left; (focus (intro v hv; go_simp; rfl)); go_simp)
    (refine h_call 9 rfl (by kernel_rfl) ?_ 20 ?_ ?_ ?_; (focus (go_simp; done)); rotate_left; (focus (go_simp; rfl)))
    refine (cmreads kind d2).mono ?_
    rintro z wz ⟨rfl, rfl⟩
    refine ⟨_, rfl, J2.out, ?_⟩
    go_simp
    (refine h_call 11 rfl (by kernel_rfl) ?_ 21 ?_ ?_ ?_; (focus (go_simp; done)); rotate_left; (focus (go_simp; rfl)))
    refine (zkreads kind d2).mono ?_
    rintro z wz ⟨rfl, rfl⟩
    refine ⟨_, rfl, J2.out, ?_⟩
    go_simp
    (refine h_read 12 rfl (by kernel_rfl) (by kernel_rfl) ?_ ?_ ?_ ?_; (focus (go_simp; done)); rotate_left; (focus (intro v hv; go_simp; rfl)); go_simp)
    (refine h_read 13 rfl (by kernel_rfl) (by kernel_rfl) (h_free rfl) ?_ ?_ ?_; rotate_left; (focus (intro v hv; go_simp; rfl)); go_simp)
    (refine h_read 14 rfl (by kernel_rfl) (by kernel_rfl) (h_free rfl) ?_ ?_ ?_; rotate_left; (focus (intro v hv; go_simp; rfl)); go_simp)
    (refine h_read 15 rfl (by kernel_rfl) (by kernel_rfl) ?_ ?_ ?_ ?_; (focus (go_simp; done)); rotate_left; (focus (intro v hv; go_simp; rfl)); go_simp)
    (refine h_read 17 rfl (by kernel_rfl) (by kernel_rfl) ?_ ?_ ?_ ?_; (focus (go_simp; done)); rotate_left; (focus (intro v hv; go_simp; rfl)); go_simp)
    (refine h_call 16 rfl (by kernel_rfl) ?_ 22 ?_ ?_ ?_; (focus (go_simp; done)); rotate_left; (focus (go_simp; rfl)))
    refine (cmaction kind d2).mono ?_
    rintro z wz ⟨rfl, rfl⟩
    refine ⟨_, rfl, J2.out, ?_⟩
    go_simp
    (refine h_call 18 rfl (by kernel_rfl) ?_ 23 ?_ ?_ ?_; (focus (go_simp; done)); rotate_left; (focus (go_simp; rfl)))
    refine (zkaction kind d2).mono ?_
    rintro z wz ⟨rfl, rfl⟩
    refine ⟨_, rfl, J2.out, ?_⟩
    go_simp
    (refine h_read 19 rfl (by kernel_rfl) (by kernel_rfl) ?_ ?_ ?_ ?_; (focus (go_simp; done)); rotate_left; (focus (intro v hv; go_simp; rfl)); go_simp)
    (refine h_read 20 rfl (by kernel_rfl) (by kernel_rfl) (h_free rfl) ?_ ?_ ?_; rotate_left; (focus (intro v hv; go_simp; rfl)); go_simp)
    (refine h_read 21 rfl (by kernel_rfl) (by kernel_rfl) (h_free rfl) ?_ ?_ ?_; rotate_left; (focus (intro v hv; go_simp; rfl)); go_simp)
    (refine h_call 22 rfl (by kernel_rfl) ?_ 8 ?_ ?_ ?_; (focus (go_simp; done)); rotate_left; (focus (go_simp; rfl)))
    refine (HA.out d2).mono ?_
    rintro z d3 ⟨rfl, hb⟩
    have J3 := Lib.hid (J2.out.trans (hb.mono J2.out.size))
    clear hb
    refine ⟨_, rfl, J3.out, ?_⟩
    go_simp
    (refine h_read 23 rfl (by kernel_rfl) (by kernel_rfl) (h_free rfl) ?_ ?_ ?_; rotate_left; (focus (intro v hv; go_simp; rfl)); go_simp)
    (refine h_read 24 rfl (by kernel_rfl) (by kernel_rfl) (h_free rfl) ?_ ?_ ?_; rotate_left; (focus (intro v hv; go_simp; rfl)); go_simp)
    refine h_done (by kernel_rfl) ?_
    have BF := Lib.hid (B2.out.trans (J3.out.mono B2.out.size))
    go_wp2_with fail
    go_ret
    exact ⟨by first | rfl | exact one (vbool (by simp)), BF.out⟩
end Go.Proofs.Ytmacjpgeamlmhaa.W
