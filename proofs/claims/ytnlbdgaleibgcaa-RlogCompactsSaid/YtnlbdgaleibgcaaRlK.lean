/- LAYER 13 (rlog): ConfAt, Conf of the program. LAYER 13 (rlog): Conf, Compact of the program. -/
import Derived.Test.YtnlbdgaleibgcaaRlI
import Derived.Test.YtnlbdgaleibgcaaRlH
import Derived.Test.YtnlbdgaleibgcaaRgt
import Derived.Test.YtnlbdgaleibgcaaRlG
set_option linter.unusedSimpArgs false
set_option linter.unusedVariables false
namespace Go.Proofs.Ytnlbdgaleibgcaa.W
open Go Go.ChangeShapes Go.WideShapes Go.ChangeAt Go.RowKit Go.Shelf
attribute [local go_sem] Oper.semAt_some

theorem keeps_below {B : Nat} {W W' : World} (h : Below W.heap.size W W') : KeepsFrom B W W' := ⟨h.size, fun k o _ hk _ => (h.block k (Array.getElem?_eq_some_iff.1 hk).1).trans hk⟩
def lastC (L : List (En × List UInt8)) {n : Nat} (pre : List (Ix13 n)) : Int := match pre.getLast? with | some x => confIn (pe (L.getD x.1 Ez)) | none => 0
theorem below_put13 {n0 l : Nat} {W : World} {o : Obj} (h : n0 ≤ l) : Below n0 W (W.putObj l o) := ⟨rfl, rfl, rfl, by simp, fun k hk => World.putObj_heap_other (by omega)⟩
theorem results_cell1 {P : Program} {fn : Func} {p : Tmp} {ty : TypeId} (h : fn.results = #[.cell p ty]) (tmps : Array Value) (w : World) (g : Nat) (v : Value) (k : IntKind)
    (hp : tmps.getD p undef = .pointer (some ⟨g, 0, none⟩)) (hr : Row w g ty [v]) (hu : P.underlying ty = some (.int k)) (hi : (P.info? ty).map (·.size) = some 1) :
    (results fn tmps).run P w = .ok v w := by
  have hg := hr.k0
  have hagg : (isAgg ty).run P w = .ok false w := by
    unfold isAgg
    rw [Sem.run_bind, run_underlying hu w]
    rfl
  have hl : (loadCells ⟨g, 0, none⟩ 1).run P w = .ok #[v] w := run_loadCells_list (P := P) w ⟨g, 0, none⟩ [v] (fun j u hj => by
    rcases j with _ | j
    · simp at hj; subst hj; simpa [Go.WideShapes.add_plain] using hg
    · simp at hj)
  cases hq : P.info? ty with
  | none => simp [hq] at hi
  | some i =>
    have hs : i.size = 1 := by simpa [hq] using hi
    have hp2 : tmps[p]?.getD undef = .pointer (some ⟨g, 0, none⟩) := by simpa [Array.getD_eq_getD_getElem?] using hp
    simp [results, h, hp2, hg, asAddr, loadVar, Sem.run_bind, hagg, sizeOf, typeInfo, hq, hs, hl, Result.andThen]
theorem ownFrom_row {β : Type} (B : Nat) (q : β → Prop) (w0 : World) (n0 g : Nat) (t : TypeId) (f : β → List Value) (hn : n0 ≤ w0.heap.size) (hB : n0 ≤ B) (hg : g < B) : OwnFrom B (fun s W => q s ∧ Row W g t (f s) ∧ Below n0 w0 W) := by
  intro s W W' row hs hgr hr
  obtain ⟨h1, h2, h3⟩ := hs
  refine ⟨h1, ?_, ?_⟩
  · exact (hgr.block g h2.lt (fun e => by have := (hr g e.symm).1; omega)).trans h2
  · exact h3.grown hgr (Nat.le_trans hn h3.size) (fun k e => Nat.le_trans hB (hr k e).1)
theorem getD_pe (L : List (En × List UInt8)) (n k : Nat) (hl : L.length = n) (hk : k < n) : (L.map pe)[k]? = some (pe (L.getD k Ez)) := by
  simp [List.getD_eq_getElem?_getD, show k < L.length by omega]
theorem mem_pe {L : List (En × List UInt8)} {n : Nat} (hl : L.length = n) {x : Pe} (hx : x ∈ L.map pe) : ∃ k, k < n ∧ x = pe (L.getD k Ez) := by
  obtain ⟨y, hy, rfl⟩ := List.mem_map.1 hx
  obtain ⟨k, hk, rfl⟩ := List.getElem_of_mem hy
  exact ⟨k, by omega, by simp [List.getD_eq_getElem?_getD, hk]⟩
theorem split_pe (L : List (En × List UInt8)) (n k : Nat) (hl : L.length = n) (hk : k < n) : L.map pe = (L.take k).map pe ++ pe (L.getD k Ez) :: (L.drop (k + 1)).map pe := by
  have h1 : L.getD k Ez = L[k]'(by omega) := by simp [List.getD_eq_getElem?_getD, show k < L.length by omega]
  rw [h1, ← List.map_cons, ← List.map_append, ← List.drop_eq_getElem_cons (by omega), List.take_append_drop]
theorem confAt_none {L : List (En × List UInt8)} {n : Nat} {i b t c : Int} (hl : L.length = n) {pre : List (Ix13 n)} (h : AllB L n i 0 pre) (h0 : ∀ x ∈ pre, confIn (pe (L.getD x.1 Ez)) = 0) : (lsOf b t c L).confAt i = c := by
  refine confL_none i _ c fun x hx hxi => ?_
  obtain ⟨k, hk, rfl⟩ := mem_pe hl hx
  have := h.1 k (Nat.zero_le _) hk hxi
  obtain ⟨y, hy, rfl⟩ := List.mem_map.1 this
  exact h0 y hy
theorem confAt_stop {L : List (En × List UInt8)} {n : Nat} {i b t c : Int} (hl : L.length = n) {init : List (Ix13 n)} {x : Ix13 n} (h : AllB L n i (x.1 + 1) init) (hx : (L.getD x.1 Ez).1.ix ≤ i) (h0 : ∀ y ∈ init, confIn (pe (L.getD y.1 Ez)) = 0)
    (h1 : confIn (pe (L.getD x.1 Ez)) ≠ 0) : (lsOf b t c L).confAt i = confIn (pe (L.getD x.1 Ez)) := by
  unfold LS.confAt
  show confL i c (L.map pe) = _
  rw [split_pe L n x.1 hl x.2]
  refine confL_at i _ hx h1 _ _ c fun y hy hyi => ?_
  obtain ⟨z, hz, rfl⟩ := List.mem_map.1 hy
  obtain ⟨j, hj, rfl⟩ := List.getElem_of_mem hz
  rw [List.length_drop] at hj
  have h2 : (L.drop (x.1 + 1))[j]'(by rw [List.length_drop]; exact hj) = L.getD (x.1 + 1 + j) Ez := by
    rw [List.getElem_drop]; simp [List.getD_eq_getElem?_getD, show x.1 + 1 + j < L.length by omega]
  rw [h2] at hyi ⊢
  have := h.1 (x.1 + 1 + j) (by omega) (by omega) hyi
  obtain ⟨y, hy, hy2⟩ := List.mem_map.1 this
  have := h0 y hy
  rw [hy2] at this; exact this
set_option maxRecDepth 100000 in
set_option maxHeartbeats 4000000 in
theorem gconfAt (p : Nat) (F : Nat → Prop) (b t c : Int) (ea : Option Addr) (en ec : Nat) (L : List (En × List UInt8)) (i : Int) (w : World) (h : LG w p F b t c ea en ec L) (ho : LOK (lsOf b t c L)) :
    Calls Try.prog 35 #[.pointer (some ⟨p, 0, none⟩), .int .i64 i] w fun x w' => x = .returned (.int .i64 ((lsOf b t c L).confAt i)) ∧ Below w.heap.size w w' := by
  refine (callsIn_wide (n := 9)).1 ?_
  have hl := h.len
  have hnn : en ≤ 1000000 := by
    have := ho.n; rw [show (lsOf b t c L).l.length = en by rw [← hl]; simp [lsOf]] at this; omega
  have HFIT := Lib.hid (fun (k : Nat) (hk : k < en) => (show (L.getD k Ez).1.n ≤ 140737488355000 from by
    have hm : L.getD k Ez ∈ L := by rw [show L.getD k Ez = L[k]'(by omega) by simp [List.getD_eq_getElem?_getD, show k < L.length by omega]]; exact List.getElem_mem _
    have := ho.x (pe (L.getD k Ez)) (List.mem_map.2 ⟨_, hm, rfl⟩)
    have h3 := (h.fit _ hm).rd.hlen
    show _ ≤ _
    have h4 : (L.getD k Ez).2.length ≤ 4096 := this
    omega))
  have H := Lib.hid h
  have HO := Lib.hid ho
  have HL := Lib.hid hl
  have CN := Lib.hid (fun (pre : List (Ix13 en)) h h0 => confAt_none (i := i) (b := b) (t := t) (c := c) hl (pre := pre) h h0)
  have CS := Lib.hid (fun (init : List (Ix13 en)) (x : Ix13 en) h hx h0 h1 => confAt_stop (i := i) (b := b) (t := t) (c := c) hl (init := init) (x := x) h hx h0 h1)
  obtain ⟨V, hV⟩ : ∃ V, (lsOf b t c L).confAt i = V := ⟨_, rfl⟩
  rw [hV]
  rw [hV] at CN CS
  clear h ho hV hl
  refine callsIn_of_wp_marks Try.func35 rfl trivial ?_ rfl
  simp only [Try.ntmps35, List.size_toArray, List.length_cons, List.length_nil, Nat.reduceAdd, Nat.reduceSub, Array.replicate_succ, Array.replicate_zero, List.push_toArray, List.append_toArray, List.nil_append, List.cons_append]
  have ra : Row (w.alloc (.cells #[.int .i64 0] 3)) w.heap.size 3 [.int .i64 0] := Row.new _ _ _
  have hb0 : Below w.heap.size w (w.alloc (.cells #[.int .i64 0] 3)) := (Below.refl _ w).alloc (Nat.le_refl _) _
  have hz0 : (w.alloc (.cells #[.int .i64 0] 3)).heap.size = w.heap.size + 1 := by simp
  have GR := Lib.hid (gready p F b t c ea en ec L (w.alloc (.cells #[.int .i64 0] 3)) (H.out.mono hb0) HO.out)
  have GB := Lib.hid (gback p i (w.alloc (.cells #[.int .i64 0] 3)))
  rw [hz0] at GB
  have RA := Lib.hid ra
  have B0 := Lib.hid hb0
  have Z0 := Lib.hid hz0
  clear ra hb0 hz0
  gi_wp2_with (first
    | (refine ⟨trivial, ?_⟩; gi_at_call 41; (with_reducible refine (callsIn_wide.2 GR.out).mono ?_); rintro x w1 ⟨rfl, rfl⟩)
    | (refine ⟨trivial, ?_⟩; gi_at_call 61; (with_reducible refine (callsIn_wide.2 GB.out).mono ?_); rintro x w2 ⟨rfl, hrp, hri, hb, hz⟩; have RP := Lib.hid hrp; have RI := Lib.hid hri; have B2 := Lib.hid hb; have Z2 := Lib.hid hz; clear hrp hri hb hz))
  have RA2 := Lib.hid (RA.out.below B2.out (Nat.lt_succ_self _))
  have B3 := Lib.hid (B0.out.trans (B2.out.mono (Nat.le_succ _)))
  have hz2 := Z2.out
  have HG2 := Lib.hid (H.out.mono B3.out)
  have EZ := Lib.hid en_zero
  have ES := Lib.hid en_size
  have hns : w.heap.size ≤ w2.heap.size := by omega
  refine wpIn_rangeFunc_ownH (n := 9) rfl (by decide) (gf := 77) (lb := #[.pointer (some ⟨w.heap.size + 1, 0, none⟩), .pointer (some ⟨w.heap.size + 1 + 1, 0, none⟩)]) rfl trivial (enters_of Try.func77 (by kernel_rfl) rfl)
    (gback1 p F b t c ea en ec L i (w.heap.size + 1) (w.heap.size + 1 + 1) w2 HG2.out hnn RP.out RI.out) belowK_t (belowK_b (Nat.le_refl _)) (Below.refl _ _) (fun _ => rfl)
    (fun pre W => (∀ x ∈ pre, confIn (pe (L.getD x.1 Ez)) = 0) ∧ Row W w.heap.size 3 [.int .i64 0] ∧ Below w2.heap.size w2 W)
    (fun cd pre W => (cd = .ret ∧ ∃ init x, pre = init ++ [x] ∧ (∀ y ∈ init, confIn (pe (L.getD y.1 Ez)) = 0) ∧ confIn (pe (L.getD x.1 Ez)) ≠ 0) ∧ Row W w.heap.size 3 [.int .i64 (lastC L pre)] ∧ Below w.heap.size w W)
    (ownFrom_row w2.heap.size (fun (pre : List (Ix13 en)) => ∀ x ∈ pre, confIn (pe (L.getD x.1 Ez)) = 0) _ _ _ _ (fun _ => [.int .i64 0]) (Nat.le_refl _) (Nat.le_refl _) (by omega))
    (fun cd => ownFrom_row w2.heap.size (fun (pre : List (Ix13 en)) => cd = .ret ∧ ∃ init x, pre = init ++ [x] ∧ (∀ y ∈ init, confIn (pe (L.getD y.1 Ez)) = 0) ∧ confIn (pe (L.getD x.1 Ez)) ≠ 0) _ _ _ _ (fun pre => [.int .i64 (lastC L pre)]) (Nat.le_refl _) hns (by omega))
    ⟨by simp, RA2.out, Below.refl _ _⟩
    (fun x a' W => ∃ Bx, w2.heap.size ≤ Bx ∧ Row W Bx 34 (L.getD x.1 Ez).1.cells ∧ a' = { tmps := #[.pointer (some ⟨p, 0, none⟩), .int .i64 i, undef, undef, .pointer (some ⟨w.heap.size, 0, none⟩), .pointer (some ⟨Bx, 0, none⟩), undef, .pointer (some ⟨p, 0, none⟩), .bool true, .bool false, .pointer (some ⟨p, 0, none⟩), .int .i64 i, .func (.func 77) #[] #[.pointer (some ⟨w.heap.size + 1, 0, none⟩), .pointer (some ⟨w.heap.size + 1 + 1, 0, none⟩)], .agg (L.getD x.1 Ez).1.cells.toArray, undef, undef, undef, undef, undef, undef, undef, undef, undef, undef], defers := [] })
    (fun x a' => by
      rintro ⟨⟩ X Y row ⟨Bx, e1, e2, e3⟩ hg hr
      refine ⟨Bx, e1, (hg.block Bx e2.lt (fun e => ?_)).trans e2, e3⟩
      obtain ⟨_, o, h1, h2⟩ := hr Bx e.symm
      have h3 : X.heap[Bx]? = _ := e2
      rw [h3] at h1
      cases h1; cases h2)
    ?assign ?body ?done ?stop
  case assign =>
    rintro l pre x W K ⟨hp, hr, hb⟩ hK
    have HR := Lib.hid hr
    have HB := Lib.hid hb
    have HP := Lib.hid hp
    have HK := Lib.hid hK
    have hws2 := HB.out.size
    obtain ⟨e, he⟩ : ∃ e, (L.getD x.1 Ez).1 = e := ⟨_, rfl⟩
    simp only [encE]
    rw [he] at HK ⊢
    clear hp hr hb hK
    gi_wp2_with (first
      | ((with_reducible refine list_in (o := ⟨some 5, _, _, _, _, _⟩) rfl ?_ ?_); (focus (intro c h; cases h)); refine alloc_row rfl _ rfl _ EZ.out ?_; intro w3 hr3 hb3 hz3; refine ⟨rfl, ?_⟩; have Z3 := Lib.hid hr3; have B4 := Lib.hid hb3; have HR3 := Lib.hid (HR.out.below hb3 HR.out.lt); clear hr3 hb3 hz3)
      | ((with_reducible refine list_in (o := ⟨none, _, _, _, _, _⟩) rfl ?_ ?_); (focus (intro c h; cases h)); refine store_row rfl _ (.tmp 5) _ rfl W.heap.size e.cells ?_ ?_ 34 _ Z3.out ?_ ?_ (cells_one _) ?_; (focus go_simp); (focus (first | (go_simp; done) | (go_simp; rfl))); (focus (exact ES.out)); (focus rfl); intro w4 hr4 hu4; refine ⟨rfl, ?_⟩; have Z4 := Lib.hid hr4; have U4 := Lib.hid hu4; have HR4 := Lib.hid (HR3.out.upd hu4 (Nat.ne_of_lt HR.out.lt)); have B5 := Lib.hid (B4.out.trans (hu4.below (Nat.le_refl _))); clear hr4 hu4))
    exact HK.out _ _ (keeps_below B5.out) (B5.out.mono hws2) ⟨HP.out, HR4.out, HB.out.trans (B5.out.mono hws2)⟩ ⟨W.heap.size, hws2, Z4.out, (by first | (go_simp; done) | (go_simp; rfl))⟩
  case body =>
    rintro l pre x a' W hl - ⟨hp, hr, hb⟩ ⟨Bx, hBx, hR, rfl⟩ hlt
    have HR := Lib.hid hr
    have HB := Lib.hid hb
    have HP := Lib.hid hp
    have hbw := B3.out.trans (hb.mono hns)
    have HBW := Lib.hid hbw
    have HX := Lib.hid hR
    have d0 := hr.k0
    have f0 := hr.frozen 0
    have hxe : L.getD x.1 Ez ∈ L := by
      have := x.2
      rw [show L.getD x.1 Ez = L[x.1]'(by rw [HL.out]; exact this) by simp [List.getD_eq_getElem?_getD, show x.1 < L.length by rw [HL.out]; exact this]]; exact List.getElem_mem _
    have hfit := (H.out.mono hbw).fit _ hxe
    have hnx := HFIT.out x.1 x.2
    have HLT := Lib.hid (show lastC L (pre ++ [x]) = confIn (pe (L.getD x.1 Ez)) by simp [lastC])
    have HXC := Lib.hid (fun (h : confIn (pe (L.getD x.1 Ez)) = 0) => (show ∀ y ∈ pre ++ [x], confIn (pe (L.getD y.1 Ez)) = 0 from fun y hy => (List.mem_append.1 hy).elim (HP.out y) (fun h2 => by rw [List.mem_singleton.1 h2]; exact h)))
    have HXS := Lib.hid (fun (h : confIn (pe (L.getD x.1 Ez)) ≠ 0) => (show ∃ init y, pre ++ [x] = init ++ [y] ∧ (∀ z ∈ init, confIn (pe (L.getD z.1 Ez)) = 0) ∧ confIn (pe (L.getD y.1 Ez)) ≠ 0 from ⟨pre, x, rfl, HP.out, h⟩))
    obtain ⟨⟨e, ql⟩, he⟩ : ∃ y, L.getD x.1 Ez = y := ⟨_, rfl⟩
    rw [he] at hfit hnx HX HXC HXS HLT ⊢
    dsimp only at hfit hnx HX
    have GC := Lib.hid (gconfIn e ql W hfit.rd hnx)
    obtain ⟨v, hv⟩ : ∃ v, confIn (pe (e, ql)) = v := ⟨_, rfl⟩
    rw [hv] at HXC HXS HLT GC
    clear hp hr hb hbw hR hxe hfit hnx hlt he hv
    have hws := HB.out.size
    have hwsw := HBW.out.size
    by_cases hz : v = 0
    · have hz1 : (v == 0) = true := by simpa using hz
      have hz2 : (v != 0) = false := by simpa using hz
      gi_wp2_with (first
        | ((with_reducible refine list_in (o := ⟨some 14, _, _, _, _, _⟩) rfl ?_ ?_); (focus (intro c h; cases h)); refine load_row rfl _ _ rfl Bx ?_ _ e.cells _ HX.out Try.underlying34 rfl ?_ ?_; (focus go_simp); (focus (exact ES.out)); refine ⟨rfl, ?_⟩)
        | (refine ⟨trivial, ?_⟩; gi_at_call 62; (with_reducible refine (CallsIn.inRound l (callsIn_wide.2 GC.out)).mono ?_); rintro y w3 ⟨rfl, hb3⟩; have B3' := Lib.hid hb3; clear hb3))
      exact ⟨keeps_below B3'.out, B3'.out.mono hws, ⟨HXC.out hz, HR.out.below B3'.out HR.out.lt, HB.out.trans (B3'.out.mono hws)⟩⟩
    · have hz1 : (v == 0) = false := by simpa using hz
      have hz2 : (v != 0) = true := by simpa using hz
      gi_wp2_with (first
        | ((with_reducible refine list_in (o := ⟨some 14, _, _, _, _, _⟩) rfl ?_ ?_); (focus (intro c h; cases h)); refine load_row rfl _ _ rfl Bx ?_ _ e.cells _ HX.out Try.underlying34 rfl ?_ ?_; (focus go_simp); (focus (exact ES.out)); refine ⟨rfl, ?_⟩)
        | (refine ⟨trivial, ?_⟩; gi_at_call 62; (with_reducible refine (CallsIn.inRound l (callsIn_wide.2 GC.out)).mono ?_); rintro y w3 ⟨rfl, hb3⟩; have B3' := Lib.hid hb3; clear d0 f0; have d0 := (HR.out.below B3'.out HR.out.lt).k0; have f0 := (HR.out.below B3'.out HR.out.lt).frozen 0; clear hb3))
      refine ⟨(keeps_below B3'.out).trans ((KeepsOthers.setCell _ _ _).from _), ⟨rfl, HXS.out hz⟩, ?_, (HBW.out.trans (B3'.out.mono hwsw)).trans ((Upd.setCell w3 w.heap.size 0 (.int .i64 v)).below (Nat.le_refl _))⟩
      rw [HLT.out]
      exact (HR.out.below B3'.out HR.out.lt).setV 0 (.int .i64 v)
  case done =>
    rintro D xs W hD hS ⟨hp, hr, hb⟩ hK
    have hV := CN.out xs hS hp
    have hb := B3.out.trans (hb.mono hns)
    obtain ⟨c0, c1, c2, c3, c4⟩ := (H.out.mono hb).row.c5
    have d0 := hr.k0
    have f0 := hr.frozen 0
    have HR := Lib.hid hr
    have HB := Lib.hid hb
    have HK := Lib.hid hK
    have HD := Lib.hid hD
    clear hr hb hK hS hp hD
    gi_wp2
    have KD := (KeepsOthers.setCell W ⟨w.heap.size, 0, none⟩ (.int .i64 c)).same D _ HK.out rfl
    have R1 : Row (W.setCell ⟨w.heap.size, 0, none⟩ (.int .i64 c)) w.heap.size 3 [.int .i64 c] := HR.out.setV 0 (.int .i64 c)
    have B9 : Below w.heap.size w (W.setCell ⟨w.heap.size, 0, none⟩ (.int .i64 c)) := HB.out.trans ((Upd.setCell W w.heap.size 0 (.int .i64 c)).below (Nat.le_refl _))
    have hDw : w.heap.size < D := by have := HD.out; omega
    refine ⟨by simp, .inl ⟨_, _, rfl, run_takeDeferred KD, ?_⟩⟩
    refine ⟨_, results_cell1 rfl _ _ w.heap.size (.int .i64 c) .i64 (by go_simp) ((World.putObj_heap_other (by omega)).trans R1 : Row _ w.heap.size 3 [.int .i64 c]) Try.underlying3 (by kernel_rfl), ?_⟩
    exact ⟨by rw [hV], B9.trans (below_put13 (by omega))⟩
  case stop =>
    rintro D cd pre W hD ⟨init', x', e', hx', hA⟩ ⟨⟨rfl, init, x, rfl, h0, h1⟩, hr, hb⟩ hK
    obtain ⟨rfl, rfl⟩ : init = init' ∧ x = x' := by simpa using e'
    have hV := CS.out init x hA hx' h0 h1
    have HR := Lib.hid hr
    have HB := Lib.hid hb
    have HK := Lib.hid hK
    have hDw : w.heap.size < D := by omega
    have hlc : lastC L (init ++ [x]) = confIn (pe (L.getD x.1 Ez)) := by simp [lastC]
    rw [hlc] at HR
    clear hr hb hK
    gi_wp2
    refine ⟨by simp, .inl ⟨_, _, rfl, run_takeDeferred HK.out, ?_⟩⟩
    refine ⟨_, results_cell1 rfl _ _ w.heap.size (.int .i64 (confIn (pe (L.getD x.1 Ez)))) .i64 (by go_simp) ((World.putObj_heap_other (by omega)).trans HR.out : Row _ w.heap.size 3 [.int .i64 (confIn (pe (L.getD x.1 Ez)))]) Try.underlying3 (by kernel_rfl), ?_⟩
    exact ⟨by simp [hV, List.getD_eq_getElem?_getD], HB.out.trans (below_put13 (by omega))⟩
end Go.Proofs.Ytnlbdgaleibgcaa.W

namespace Go.Proofs.Ytnlbdgaleibgcaa.W
open Go Go.ChangeShapes Go.WideShapes Go.ChangeAt Go.RowKit

theorem run_built {P : Program} {w : World} {o : Oper} {a : Act} (ty : TypeId) (parts : Array (Nat × Operand)) (ho : o.op = .build ty parts) (L : List Value)
    (hb : P.built ty (parts.map fun (i, x) => (i, a.eval x)).toList = some L.toArray) : (execOp a.eval o).run P w = .ok (.value (.agg L.toArray)) w := by
  unfold execOp
  simp only [ho, Sem.run_bind, run_build w ty _ _ hb, Result.andThen_ok]
  rfl
set_option maxRecDepth 100000 in
set_option maxHeartbeats 4000000 in
theorem gconf (p : Nat) (F : Nat → Prop) (b t c : Int) (ea : Option Addr) (en ec : Nat) (L : List (En × List UInt8)) (w : World) (h : LG w p F b t c ea en ec L) (ho : LOK (lsOf b t c L)) : Calls Try.prog 32 #[.pointer (some ⟨p, 0, none⟩)] w fun x w' => x = .returned (.int .i64 ((lsOf b t c L).confAt (lsOf b t c L).last)) ∧ Below w.heap.size w w' := by
  have GL := Lib.hid (fun (W : World) (hb : Below w.heap.size w W) => glast p F b t c ea en ec L W (h.mono hb) ho)
  have GT := Lib.hid (fun (W : World) (hb : Below w.heap.size w W) => gconfAt p F b t c ea en ec L (lsOf b t c L).last W (h.mono hb) ho)
  obtain ⟨z, hz⟩ : ∃ z, (lsOf b t c L).last = z := ⟨_, rfl⟩
  rw [hz] at GL GT ⊢
  obtain ⟨y, hy⟩ : ∃ y, (lsOf b t c L).confAt z = y := ⟨_, rfl⟩
  rw [hy] at GT ⊢
  clear h ho hz hy
  go_enter Try.func32, Try.ntmps32
  go_wp2_with (first | (go_at_call 30; (with_reducible refine (GL.out w (Below.refl _ _)).mono ?_); rintro x w1 ⟨rfl, hb1⟩; have B1 := Lib.hid hb1; clear hb1) | (go_at_call 35; (with_reducible refine (GT.out w1 B1.out).mono ?_); rintro x w2 ⟨rfl, hb2⟩; have B2 := Lib.hid (B1.out.trans (hb2.mono B1.out.size)); clear hb2))
  go_ret
  exact ⟨rfl, B2.out⟩
set_option maxRecDepth 100000 in
set_option maxHeartbeats 4000000 in
theorem gcompact (p : Nat) (F : Nat → Prop) (b t c : Int) (ea : Option Addr) (en ec : Nat) (L : List (En × List UInt8)) (i : Int) (w : World) (h : LG w p F b t c ea en ec L) (ho : LOK (lsOf b t c L)) :
    Calls Try.prog 18 #[.pointer (some ⟨p, 0, none⟩), .int .i64 i] w fun x w' => ∃ b' t' c' en' L', x = .returned (.int .i64 ((lsOf b t c L).compact i).2) ∧ LG w' p F b' t' c' ea en' ec L' ∧ lsOf b' t' c' L' = ((lsOf b t c L).compact i).1 ∧ en' ≤ en ∧ Ft F w w' := by
  have H := Lib.hid h
  have hn : en ≤ 1000000 := by
    have h1 := ho.n
    have h2 := h.len
    rw [show (lsOf b t c L).l.length = en by rw [← h2]; simp [lsOf]] at h1
    omega
  have GT := Lib.hid (fun (W : World) (hb : Below w.heap.size w W) => gterm p F b t c ea en ec L i W (h.mono hb) ho)
  have GC := Lib.hid (fun (W : World) (hb : Below w.heap.size w W) => gconfAt p F b t c ea en ec L i W (h.mono hb) ho)
  have BS := Lib.hid base_size
  have hl : (lsOf b t c L).l = L.map pe := rfl
  unfold LS.compact
  obtain ⟨tv, htv⟩ : ∃ y, (lsOf b t c L).term i = y := ⟨_, rfl⟩
  obtain ⟨cv, hcv⟩ : ∃ y, (lsOf b t c L).confAt i = y := ⟨_, rfl⟩
  obtain ⟨ev, hev⟩ : ∃ y, (lsOf b t c L).termE i = y := ⟨_, rfl⟩
  have hev6 : ev = 0 ∨ ev = 6 := by rw [← hev]; unfold LS.termE; split; exact .inl rfl; split; exact .inl rfl; exact .inr rfl
  rw [htv, hev] at GT
  rw [hcv] at GC
  rw [htv, hcv, hev, hl]
  clear h ho htv hcv hev hl
  rcases hev6 with rfl | rfl
  · rw [if_pos rfl]
    have BB := Lib.hid (built_base i tv cv)
    go_enter Try.func18, Try.ntmps18
    go_wp2_with (first
      | (with_reducible refine box_cell (o := ⟨some 3, _, _, _, _, _⟩) rfl _ _ rfl (.int .i64 i) rfl rfl ?_; intro w1 hr1 hb1 hz1; have R1 := Lib.hid hr1; have B1 := Lib.hid hb1; have d0 := R1.out.k0; clear hr1 hb1 hz1)
      | (go_at_call 34; (with_reducible refine (GT.out w1 B1.out).mono ?_); rintro x w2 ⟨rfl, hb⟩; have B2 := Lib.hid (B1.out.trans (hb.mono B1.out.size)); have R2 := Lib.hid (R1.out.below hb R1.out.lt); clear hb d0; have d0 := R2.out.k0))
    refine region_t (fun v => Below w2.heap.size w2 v) 9 (by kernel_rfl) (by kernel_rfl) (by kernel_rfl) (Below.refl _ _).drew ?_
    obtain ⟨wd, hwd⟩ : ∃ wd, w2.drew = wd := ⟨_, rfl⟩
    have D0 : Hid (Below w2.heap.size w2 wd) := Lib.hid (by rw [← hwd]; exact (Below.refl _ _).drew)
    rw [hwd]
    clear hwd
    (refine t_read 0 rfl (by kernel_rfl) (by kernel_rfl) (by kernel_rfl) (t_free rfl) ?_ ?_ ?_; rotate_left; (focus (intro v hv; go_simp; rfl)); go_simp)
    (refine t_read 1 rfl (by kernel_rfl) (by kernel_rfl) (by kernel_rfl) (t_free rfl) ?_ ?_ ?_; rotate_left; (focus (intro v hv; have d0 := (R2.out.below hv R2.out.lt).k0; go_simp; rfl)); go_simp)
    (refine t_read 2 rfl (by kernel_rfl) (by kernel_rfl) (by kernel_rfl) (t_free rfl) ?_ ?_ ?_; rotate_left; (focus (intro v hv; go_simp; rfl)); go_simp)
    (refine t_read 3 rfl (by kernel_rfl) (by kernel_rfl) (by kernel_rfl) (t_free rfl) ?_ ?_ ?_; rotate_left; (focus (intro v hv; go_simp; rfl)); go_simp)
    (refine t_read 4 rfl (by kernel_rfl) (by kernel_rfl) (by kernel_rfl) (t_free rfl) ?_ ?_ ?_; rotate_left; (focus (intro v hv; have d0 := (R2.out.below hv R2.out.lt).k0; go_simp; rfl)); go_simp)
    (refine t_call 5 rfl (by kernel_rfl) rfl (t_free rfl) 35 ?_ ?_ ?_; rotate_left; (focus (go_simp; rfl)))
    refine (GC.out wd (B2.out.trans (D0.out.mono B2.out.size))).mono ?_
    rintro x v1 ⟨rfl, hb⟩
    have J1 := Lib.hid (D0.out.trans (hb.mono D0.out.size))
    clear hb
    refine ⟨_, rfl, J1.out, ?_⟩
    go_simp
    (refine t_read 6 rfl (by kernel_rfl) (by kernel_rfl) (by kernel_rfl) (t_free rfl) ?_ ?_ ?_; rotate_left; (focus (intro v hv; refine run_built 53 #[(0, .tmp 17), (1, .tmp 18), (2, .tmp 21)] ?_ [.int .i64 i, .int .i64 tv, .int .i64 cv] ?_; (focus rfl); go_simp; exact BB.out)); go_simp)
    (refine t_one 7 rfl (by kernel_rfl) rfl rfl ?_ ?_ ?_; rotate_left; (focus (go_simp; rfl)); go_simp)
    (refine t_read 8 rfl (by kernel_rfl) (by kernel_rfl) (by kernel_rfl) (t_free rfl) ?_ ?_ ?_; rotate_left; (focus (intro v hv; go_simp; rfl)); go_simp)
    (refine t_last 9 rfl (by kernel_rfl) rfl (by kernel_rfl) (by kernel_rfl) ?_; intro K hK)
    have V1 := Lib.hid (B2.out.trans (J1.out.mono B2.out.size))
    have HV := Lib.hid (H.out.mono V1.out)
    have RV := Lib.hid (R2.out.below J1.out R2.out.lt)
    refine store_part rfl _ _ _ rfl p 1 [.int .i64 i, .int .i64 tv, .int .i64 cv] (by go_simp) (by first | (go_simp; done) | (go_simp; rfl)) 55 _ HV.out.row BS.out (by show 1 + 3 ≤ 5; decide) (int3_one _ _ _) ?_
    intro w3 hr3 hu3
    have R3 : Hid (Row w3 p 55 [.bool true, .int .i64 i, .int .i64 tv, .int .i64 cv, .slice ea en ec]) := Lib.hid hr3
    have U3 := Lib.hid hu3
    have hpw : w.heap.size ≠ p := fun e => absurd (H.out.lt p H.out.fp) (by omega)
    have RB3 := Lib.hid (RV.out.upd hu3 hpw)
    have H3 : Hid (LG w3 p F i tv cv ea en ec L) := Lib.hid ⟨R3.out, HV.out.es.upd hu3 (fun x off e => (HV.out.ne x off e).2), HV.out.ne, fun x hx => EnF.put13 (HV.out.fit x hx) HV.out.row (NB_lg _ _ _ _ _ _) hu3, HV.out.fa, HV.out.fp, fun k hk => by rw [hu3.size]; exact HV.out.lt k hk⟩
    have F3 : Hid (Ft F w w3) := Lib.hid ((Ft.of_below V1.out).trans (Ft.of_upd hu3 H.out.fp))
    clear hr3 hu3
    refine hK _ _ ?_
    go_simp
    go_wp2_with (first
      | (go_at_call 46; refine (gdrop1 p F i tv cv ea en ec L i w.heap.size w3 H3.out hn RB3.out (fun hf => Nat.lt_irrefl _ (H.out.lt _ hf))).mono ?_; rintro x w4 ⟨⟨v, rfl⟩, en', L', hL, hle, hpe, hft⟩; have L4 := Lib.hid hL; have PE4 := Lib.hid hpe; have FT4 := Lib.hid hft; have LE4 := Lib.hid hle; clear hL hle hpe hft))
    go_ret
    exact ⟨i, tv, cv, en', L', rfl, L4.out, by unfold lsOf; rw [PE4.out], LE4.out, F3.out.trans FT4.out⟩

  · rw [if_neg (by decide)]
    go_enter Try.func18, Try.ntmps18
    go_wp2_with (first
      | (with_reducible refine box_cell (o := ⟨some 3, _, _, _, _, _⟩) rfl _ _ rfl (.int .i64 i) rfl rfl ?_; intro w1 hr1 hb1 hz1; have R1 := Lib.hid hr1; have B1 := Lib.hid hb1; have d0 := R1.out.k0; clear hr1 hb1 hz1)
      | (go_at_call 34; (with_reducible refine (GT.out w1 B1.out).mono ?_); rintro x w2 ⟨rfl, hb⟩; have B2 := Lib.hid (B1.out.trans (hb.mono B1.out.size)); have R2 := Lib.hid (R1.out.below hb R1.out.lt); clear hb d0; have d0 := R2.out.k0))
    go_ret
    exact ⟨b, t, c, en, L, rfl, H.out.mono B2.out, rfl, Nat.le_refl _, Ft.of_below B2.out⟩
end Go.Proofs.Ytnlbdgaleibgcaa.W
