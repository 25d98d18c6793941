/- LAYER 13 (rlog): ConfAt, Conf of the program. LAYER 13 (rlog): Conf, Compact of the program. LAYER 13 (rlog): From of the program. LAYER 13 (rlog): what compacting leaves, plain; the program's log, closed, by its plain one. LAYER 13 (rlog): the law's equal, few, at. -/
import Derived.Test.YtjkkopbhdeljmaaGreatRlI
import Derived.Test.YtjkkopbhdeljmaaGreatRlF
import Derived.Test.YtjkkopbhdeljmaaGreatRgt
import Derived.Test.YtjkkopbhdeljmaaGreatRlO
import Derived.Test.YtjkkopbhdeljmaaGreatRlD
import Derived.Test.YtjkkopbhdeljmaaGreatRcEq
import Derived.Test.YtjkkopbhdeljmaaGreatByt
set_option linter.unusedSimpArgs false
set_option linter.unusedVariables false
namespace Go.Proofs.YtjkkopbhdeljmaaGreat.W
open Go Go.ChangeShapes Go.WideShapes Go.ChangeAt Go.RowKit Go.Shelf
attribute [local go_sem] Oper.semAt_some

theorem keeps_below {B : Nat} {W W' : World} (h : Below W.heap.size W W') : KeepsFrom B W W' := ⟨h.size, fun k o _ hk _ => (h.block k (Array.getElem?_eq_some_iff.1 hk).1).trans hk⟩
def lastC (L : List (En × List UInt8)) {n : Nat} (pre : List (Ix13 n)) : Int := match pre.getLast? with | some x => confIn (pe (L.getD x.1 Ez)) | none => 0
theorem below_put13 {n0 l : Nat} {W : World} {o : Obj} (h : n0 ≤ l) : Below n0 W (W.putObj l o) := ⟨rfl, rfl, rfl, by simp, fun k hk => World.putObj_heap_other (by omega)⟩
theorem results_cell1 {P : Program} {fn : Func} {p : Tmp} {ty : TypeId} (h : fn.results = #[.cell p ty]) (tmps : Array Value) (w : World) (g : Nat) (v : Value) (k : IntKind)
    (hp : tmps.getD p undef = .pointer (some ⟨g, 0, none⟩)) (hr : Row w g ty [v]) (hu : P.underlying ty = some (.int k)) (hi : (P.info? ty).map (·.size) = some 1) :
    (results fn tmps).run P w = .ok v w := by
  have hg := hr.k0
  have hagg : (isAgg ty).run P w = .ok false w := by
    unfold isAgg
    rw [Sem.run_bind, run_underlying hu w]
    rfl
  have hl : (loadCells ⟨g, 0, none⟩ 1).run P w = .ok #[v] w := run_loadCells_list (P := P) w ⟨g, 0, none⟩ [v] (fun j u hj => by
    rcases j with _ | j
    · simp at hj; subst hj; simpa [Go.WideShapes.add_plain] using hg
    · simp at hj)
  cases hq : P.info? ty with
  | none => simp [hq] at hi
  | some i =>
    have hs : i.size = 1 := by simpa [hq] using hi
    have hp2 : tmps[p]?.getD undef = .pointer (some ⟨g, 0, none⟩) := by simpa [Array.getD_eq_getD_getElem?] using hp
    simp [results, h, hp2, hg, asAddr, loadVar, Sem.run_bind, hagg, sizeOf, typeInfo, hq, hs, hl, Result.andThen]
theorem ownFrom_row {β : Type} (B : Nat) (q : β → Prop) (w0 : World) (n0 g : Nat) (t : TypeId) (f : β → List Value) (hn : n0 ≤ w0.heap.size) (hB : n0 ≤ B) (hg : g < B) : OwnFrom B (fun s W => q s ∧ Row W g t (f s) ∧ Below n0 w0 W) := by
  intro s W W' row hs hgr hr
  obtain ⟨h1, h2, h3⟩ := hs
  refine ⟨h1, ?_, ?_⟩
  · exact (hgr.block g h2.lt (fun e => by have := (hr g e.symm).1; omega)).trans h2
  · exact h3.grown hgr (Nat.le_trans hn h3.size) (fun k e => Nat.le_trans hB (hr k e).1)
theorem getD_pe (L : List (En × List UInt8)) (n k : Nat) (hl : L.length = n) (hk : k < n) : (L.map pe)[k]? = some (pe (L.getD k Ez)) := by
  simp [List.getD_eq_getElem?_getD, show k < L.length by omega]
theorem mem_pe {L : List (En × List UInt8)} {n : Nat} (hl : L.length = n) {x : Pe} (hx : x ∈ L.map pe) : ∃ k, k < n ∧ x = pe (L.getD k Ez) := by
  obtain ⟨y, hy, rfl⟩ := List.mem_map.1 hx
  obtain ⟨k, hk, rfl⟩ := List.getElem_of_mem hy
  exact ⟨k, by omega, by simp [List.getD_eq_getElem?_getD, hk]⟩
theorem split_pe (L : List (En × List UInt8)) (n k : Nat) (hl : L.length = n) (hk : k < n) : L.map pe = (L.take k).map pe ++ pe (L.getD k Ez) :: (L.drop (k + 1)).map pe := by
  have h1 : L.getD k Ez = L[k]'(by omega) := by simp [List.getD_eq_getElem?_getD, show k < L.length by omega]
  rw [h1, ← List.map_cons, ← List.map_append, ← List.drop_eq_getElem_cons (by omega), List.take_append_drop]
theorem confAt_none {L : List (En × List UInt8)} {n : Nat} {i b t c : Int} (hl : L.length = n) {pre : List (Ix13 n)} (h : AllB L n i 0 pre) (h0 : ∀ x ∈ pre, confIn (pe (L.getD x.1 Ez)) = 0) : (lsOf b t c L).confAt i = c := by
  refine confL_none i _ c fun x hx hxi => ?_
  obtain ⟨k, hk, rfl⟩ := mem_pe hl hx
  have := h.1 k (Nat.zero_le _) hk hxi
  obtain ⟨y, hy, rfl⟩ := List.mem_map.1 this
  exact h0 y hy
theorem confAt_stop {L : List (En × List UInt8)} {n : Nat} {i b t c : Int} (hl : L.length = n) {init : List (Ix13 n)} {x : Ix13 n} (h : AllB L n i (x.1 + 1) init) (hx : (L.getD x.1 Ez).1.ix ≤ i) (h0 : ∀ y ∈ init, confIn (pe (L.getD y.1 Ez)) = 0)
    (h1 : confIn (pe (L.getD x.1 Ez)) ≠ 0) : (lsOf b t c L).confAt i = confIn (pe (L.getD x.1 Ez)) := by
  unfold LS.confAt
  show confL i c (L.map pe) = _
  rw [split_pe L n x.1 hl x.2]
  refine confL_at i _ hx h1 _ _ c fun y hy hyi => ?_
  obtain ⟨z, hz, rfl⟩ := List.mem_map.1 hy
  obtain ⟨j, hj, rfl⟩ := List.getElem_of_mem hz
  rw [List.length_drop] at hj
  have h2 : (L.drop (x.1 + 1))[j]'(by rw [List.length_drop]; exact hj) = L.getD (x.1 + 1 + j) Ez := by
    rw [List.getElem_drop]; simp [List.getD_eq_getElem?_getD, show x.1 + 1 + j < L.length by omega]
  rw [h2] at hyi ⊢
  have := h.1 (x.1 + 1 + j) (by omega) (by omega) hyi
  obtain ⟨y, hy, hy2⟩ := List.mem_map.1 this
  have := h0 y hy
  rw [hy2] at this; exact this
set_option maxRecDepth 100000 in
set_option maxHeartbeats 4000000 in
theorem gconfAt (p : Nat) (F : Nat → Prop) (b t c : Int) (ea : Option Addr) (en ec : Nat) (L : List (En × List UInt8)) (i : Int) (w : World) (h : LG w p F b t c ea en ec L) (ho : LOK (lsOf b t c L)) :
    Calls Tryz.prog 53 #[.pointer (some ⟨p, 0, none⟩), .int .i64 i] w fun x w' => x = .returned (.int .i64 ((lsOf b t c L).confAt i)) ∧ Below w.heap.size w w' := by
  refine (callsIn_wide (n := 9)).1 ?_
  have hl := h.len
  have hnn : en ≤ 1000000 := by
    have := ho.n; rw [show (lsOf b t c L).l.length = en by rw [← hl]; simp [lsOf]] at this; omega
  have HFIT := Lib.hid (fun (k : Nat) (hk : k < en) => (show (L.getD k Ez).1.n ≤ 140737488355000 from by
    have hm : L.getD k Ez ∈ L := by rw [show L.getD k Ez = L[k]'(by omega) by simp [List.getD_eq_getElem?_getD, show k < L.length by omega]]; exact List.getElem_mem _
    have := ho.x (pe (L.getD k Ez)) (List.mem_map.2 ⟨_, hm, rfl⟩)
    have h3 := (h.fit _ hm).rd.hlen
    show _ ≤ _
    have h4 : (L.getD k Ez).2.length ≤ 4096 := this
    omega))
  have H := Lib.hid h
  have HO := Lib.hid ho
  have HL := Lib.hid hl
  have CN := Lib.hid (fun (pre : List (Ix13 en)) h h0 => confAt_none (i := i) (b := b) (t := t) (c := c) hl (pre := pre) h h0)
  have CS := Lib.hid (fun (init : List (Ix13 en)) (x : Ix13 en) h hx h0 h1 => confAt_stop (i := i) (b := b) (t := t) (c := c) hl (init := init) (x := x) h hx h0 h1)
  obtain ⟨V, hV⟩ : ∃ V, (lsOf b t c L).confAt i = V := ⟨_, rfl⟩
  rw [hV]
  rw [hV] at CN CS
  clear h ho hV hl
  refine callsIn_of_wp_marks Tryz.func53 rfl trivial ?_ rfl
  simp only [Tryz.ntmps53, List.size_toArray, List.length_cons, List.length_nil, Nat.reduceAdd, Nat.reduceSub, Array.replicate_succ, Array.replicate_zero, List.push_toArray, List.append_toArray, List.nil_append, List.cons_append]
  have ra : Row (w.alloc (.cells #[.int .i64 0] 3)) w.heap.size 3 [.int .i64 0] := Row.new _ _ _
  have hb0 : Below w.heap.size w (w.alloc (.cells #[.int .i64 0] 3)) := (Below.refl _ w).alloc (Nat.le_refl _) _
  have hz0 : (w.alloc (.cells #[.int .i64 0] 3)).heap.size = w.heap.size + 1 := by simp
  have GR := Lib.hid (gready p F b t c ea en ec L (w.alloc (.cells #[.int .i64 0] 3)) (H.out.mono hb0) HO.out)
  have GB := Lib.hid (gback p i (w.alloc (.cells #[.int .i64 0] 3)))
  rw [hz0] at GB
  have RA := Lib.hid ra
  have B0 := Lib.hid hb0
  have Z0 := Lib.hid hz0
  clear ra hb0 hz0
  gi_wp2_with (first
    | (refine ⟨trivial, ?_⟩; gi_at_call 51; (with_reducible refine (callsIn_wide.2 GR.out).mono ?_); rintro x w1 ⟨rfl, rfl⟩)
    | (refine ⟨trivial, ?_⟩; gi_at_call 89; (with_reducible refine (callsIn_wide.2 GB.out).mono ?_); rintro x w2 ⟨rfl, hrp, hri, hb, hz⟩; have RP := Lib.hid hrp; have RI := Lib.hid hri; have B2 := Lib.hid hb; have Z2 := Lib.hid hz; clear hrp hri hb hz))
  have RA2 := Lib.hid (RA.out.below B2.out (Nat.lt_succ_self _))
  have B3 := Lib.hid (B0.out.trans (B2.out.mono (Nat.le_succ _)))
  have hz2 := Z2.out
  have HG2 := Lib.hid (H.out.mono B3.out)
  have EZ := Lib.hid en_zero
  have ES := Lib.hid en_size
  have hns : w.heap.size ≤ w2.heap.size := by omega
  refine wpIn_rangeFunc_ownH (n := 9) rfl (by decide) (gf := 121) (lb := #[.pointer (some ⟨w.heap.size + 1, 0, none⟩), .pointer (some ⟨w.heap.size + 1 + 1, 0, none⟩)]) rfl trivial (enters_of Tryz.func121 (by kernel_rfl) rfl)
    (gback1 p F b t c ea en ec L i (w.heap.size + 1) (w.heap.size + 1 + 1) w2 HG2.out hnn RP.out RI.out) belowK_t (belowK_b (Nat.le_refl _)) (Below.refl _ _) (fun _ => rfl)
    (fun pre W => (∀ x ∈ pre, confIn (pe (L.getD x.1 Ez)) = 0) ∧ Row W w.heap.size 3 [.int .i64 0] ∧ Below w2.heap.size w2 W)
    (fun cd pre W => (cd = .ret ∧ ∃ init x, pre = init ++ [x] ∧ (∀ y ∈ init, confIn (pe (L.getD y.1 Ez)) = 0) ∧ confIn (pe (L.getD x.1 Ez)) ≠ 0) ∧ Row W w.heap.size 3 [.int .i64 (lastC L pre)] ∧ Below w.heap.size w W)
    (ownFrom_row w2.heap.size (fun (pre : List (Ix13 en)) => ∀ x ∈ pre, confIn (pe (L.getD x.1 Ez)) = 0) _ _ _ _ (fun _ => [.int .i64 0]) (Nat.le_refl _) (Nat.le_refl _) (by omega))
    (fun cd => ownFrom_row w2.heap.size (fun (pre : List (Ix13 en)) => cd = .ret ∧ ∃ init x, pre = init ++ [x] ∧ (∀ y ∈ init, confIn (pe (L.getD y.1 Ez)) = 0) ∧ confIn (pe (L.getD x.1 Ez)) ≠ 0) _ _ _ _ (fun pre => [.int .i64 (lastC L pre)]) (Nat.le_refl _) hns (by omega))
    ⟨by simp, RA2.out, Below.refl _ _⟩
    (fun x a' W => ∃ Bx, w2.heap.size ≤ Bx ∧ Row W Bx 69 (L.getD x.1 Ez).1.cells ∧ a' = { tmps := #[.pointer (some ⟨p, 0, none⟩), .int .i64 i, undef, undef, .pointer (some ⟨w.heap.size, 0, none⟩), .pointer (some ⟨Bx, 0, none⟩), undef, .pointer (some ⟨p, 0, none⟩), .bool true, .bool false, .pointer (some ⟨p, 0, none⟩), .int .i64 i, .func (.func 121) #[] #[.pointer (some ⟨w.heap.size + 1, 0, none⟩), .pointer (some ⟨w.heap.size + 1 + 1, 0, none⟩)], .agg (L.getD x.1 Ez).1.cells.toArray, undef, undef, undef, undef, undef, undef, undef, undef, undef, undef], defers := [] })
    (fun x a' => by
      rintro ⟨⟩ X Y row ⟨Bx, e1, e2, e3⟩ hg hr
      refine ⟨Bx, e1, (hg.block Bx e2.lt (fun e => ?_)).trans e2, e3⟩
      obtain ⟨_, o, h1, h2⟩ := hr Bx e.symm
      have h3 : X.heap[Bx]? = _ := e2
      rw [h3] at h1
      cases h1; cases h2)
    ?assign ?body ?done ?stop
  case assign =>
    rintro l pre x W K ⟨hp, hr, hb⟩ hK
    have HR := Lib.hid hr
    have HB := Lib.hid hb
    have HP := Lib.hid hp
    have HK := Lib.hid hK
    have hws2 := HB.out.size
    obtain ⟨e, he⟩ : ∃ e, (L.getD x.1 Ez).1 = e := ⟨_, rfl⟩
    simp only [encE]
    rw [he] at HK ⊢
    clear hp hr hb hK
    gi_wp2_with (first
      | ((with_reducible refine list_in (o := ⟨some 5, _, _, _, _, _⟩) rfl ?_ ?_); (focus (intro c h; cases h)); refine alloc_row rfl _ rfl _ EZ.out ?_; intro w3 hr3 hb3 hz3; refine ⟨rfl, ?_⟩; have Z3 := Lib.hid hr3; have B4 := Lib.hid hb3; have HR3 := Lib.hid (HR.out.below hb3 HR.out.lt); clear hr3 hb3 hz3)
      | ((with_reducible refine list_in (o := ⟨none, _, _, _, _, _⟩) rfl ?_ ?_); (focus (intro c h; cases h)); refine store_row rfl _ (.tmp 5) _ rfl W.heap.size e.cells ?_ ?_ 69 _ Z3.out ?_ ?_ (cells_one _) ?_; (focus go_simp); (focus (first | (go_simp; done) | (go_simp; rfl))); (focus (exact ES.out)); (focus rfl); intro w4 hr4 hu4; refine ⟨rfl, ?_⟩; have Z4 := Lib.hid hr4; have U4 := Lib.hid hu4; have HR4 := Lib.hid (HR3.out.upd hu4 (Nat.ne_of_lt HR.out.lt)); have B5 := Lib.hid (B4.out.trans (hu4.below (Nat.le_refl _))); clear hr4 hu4))
    exact HK.out _ _ (keeps_below B5.out) (B5.out.mono hws2) ⟨HP.out, HR4.out, HB.out.trans (B5.out.mono hws2)⟩ ⟨W.heap.size, hws2, Z4.out, (by first | (go_simp; done) | (go_simp; rfl))⟩
  case body =>
    rintro l pre x a' W hl - ⟨hp, hr, hb⟩ ⟨Bx, hBx, hR, rfl⟩ hlt
    have HR := Lib.hid hr
    have HB := Lib.hid hb
    have HP := Lib.hid hp
    have hbw := B3.out.trans (hb.mono hns)
    have HBW := Lib.hid hbw
    have HX := Lib.hid hR
    have d0 := hr.k0
    have f0 := hr.frozen 0
    have hxe : L.getD x.1 Ez ∈ L := by
      have := x.2
      rw [show L.getD x.1 Ez = L[x.1]'(by rw [HL.out]; exact this) by simp [List.getD_eq_getElem?_getD, show x.1 < L.length by rw [HL.out]; exact this]]; exact List.getElem_mem _
    have hfit := (H.out.mono hbw).fit _ hxe
    have hnx := HFIT.out x.1 x.2
    have HLT := Lib.hid (show lastC L (pre ++ [x]) = confIn (pe (L.getD x.1 Ez)) by simp [lastC])
    have HXC := Lib.hid (fun (h : confIn (pe (L.getD x.1 Ez)) = 0) => (show ∀ y ∈ pre ++ [x], confIn (pe (L.getD y.1 Ez)) = 0 from fun y hy => (List.mem_append.1 hy).elim (HP.out y) (fun h2 => by rw [List.mem_singleton.1 h2]; exact h)))
    have HXS := Lib.hid (fun (h : confIn (pe (L.getD x.1 Ez)) ≠ 0) => (show ∃ init y, pre ++ [x] = init ++ [y] ∧ (∀ z ∈ init, confIn (pe (L.getD z.1 Ez)) = 0) ∧ confIn (pe (L.getD y.1 Ez)) ≠ 0 from ⟨pre, x, rfl, HP.out, h⟩))
    obtain ⟨⟨e, ql⟩, he⟩ : ∃ y, L.getD x.1 Ez = y := ⟨_, rfl⟩
    rw [he] at hfit hnx HX HXC HXS HLT ⊢
    dsimp only at hfit hnx HX
    have GC := Lib.hid (gconfIn e ql W hfit.rd hnx)
    obtain ⟨v, hv⟩ : ∃ v, confIn (pe (e, ql)) = v := ⟨_, rfl⟩
    rw [hv] at HXC HXS HLT GC
    clear hp hr hb hbw hR hxe hfit hnx hlt he hv
    have hws := HB.out.size
    have hwsw := HBW.out.size
    by_cases hz : v = 0
    · have hz1 : (v == 0) = true := by simpa using hz
      have hz2 : (v != 0) = false := by simpa using hz
      gi_wp2_with (first
        | ((with_reducible refine list_in (o := ⟨some 14, _, _, _, _, _⟩) rfl ?_ ?_); (focus (intro c h; cases h)); refine load_row rfl _ _ rfl Bx ?_ _ e.cells _ HX.out Tryz.underlying69 rfl ?_ ?_; (focus go_simp); (focus (exact ES.out)); refine ⟨rfl, ?_⟩)
        | (refine ⟨trivial, ?_⟩; gi_at_call 90; (with_reducible refine (CallsIn.inRound l (callsIn_wide.2 GC.out)).mono ?_); rintro y w3 ⟨rfl, hb3⟩; have B3' := Lib.hid hb3; clear hb3))
      exact ⟨keeps_below B3'.out, B3'.out.mono hws, ⟨HXC.out hz, HR.out.below B3'.out HR.out.lt, HB.out.trans (B3'.out.mono hws)⟩⟩
    · have hz1 : (v == 0) = false := by simpa using hz
      have hz2 : (v != 0) = true := by simpa using hz
      gi_wp2_with (first
        | ((with_reducible refine list_in (o := ⟨some 14, _, _, _, _, _⟩) rfl ?_ ?_); (focus (intro c h; cases h)); refine load_row rfl _ _ rfl Bx ?_ _ e.cells _ HX.out Tryz.underlying69 rfl ?_ ?_; (focus go_simp); (focus (exact ES.out)); refine ⟨rfl, ?_⟩)
        | (refine ⟨trivial, ?_⟩; gi_at_call 90; (with_reducible refine (CallsIn.inRound l (callsIn_wide.2 GC.out)).mono ?_); rintro y w3 ⟨rfl, hb3⟩; have B3' := Lib.hid hb3; clear d0 f0; have d0 := (HR.out.below B3'.out HR.out.lt).k0; have f0 := (HR.out.below B3'.out HR.out.lt).frozen 0; clear hb3))
      refine ⟨(keeps_below B3'.out).trans ((KeepsOthers.setCell _ _ _).from _), ⟨rfl, HXS.out hz⟩, ?_, (HBW.out.trans (B3'.out.mono hwsw)).trans ((Upd.setCell w3 w.heap.size 0 (.int .i64 v)).below (Nat.le_refl _))⟩
      rw [HLT.out]
      exact (HR.out.below B3'.out HR.out.lt).setV 0 (.int .i64 v)
  case done =>
    rintro D xs W hD hS ⟨hp, hr, hb⟩ hK
    have hV := CN.out xs hS hp
    have hb := B3.out.trans (hb.mono hns)
    obtain ⟨c0, c1, c2, c3, c4⟩ := (H.out.mono hb).row.c5
    have d0 := hr.k0
    have f0 := hr.frozen 0
    have HR := Lib.hid hr
    have HB := Lib.hid hb
    have HK := Lib.hid hK
    have HD := Lib.hid hD
    clear hr hb hK hS hp hD
    gi_wp2
    have KD := (KeepsOthers.setCell W ⟨w.heap.size, 0, none⟩ (.int .i64 c)).same D _ HK.out rfl
    have R1 : Row (W.setCell ⟨w.heap.size, 0, none⟩ (.int .i64 c)) w.heap.size 3 [.int .i64 c] := HR.out.setV 0 (.int .i64 c)
    have B9 : Below w.heap.size w (W.setCell ⟨w.heap.size, 0, none⟩ (.int .i64 c)) := HB.out.trans ((Upd.setCell W w.heap.size 0 (.int .i64 c)).below (Nat.le_refl _))
    have hDw : w.heap.size < D := by have := HD.out; omega
    refine ⟨by simp, .inl ⟨_, _, rfl, run_takeDeferred KD, ?_⟩⟩
    refine ⟨_, results_cell1 rfl _ _ w.heap.size (.int .i64 c) .i64 (by go_simp) ((World.putObj_heap_other (by omega)).trans R1 : Row _ w.heap.size 3 [.int .i64 c]) Tryz.underlying3 (by kernel_rfl), ?_⟩
    exact ⟨by rw [hV], B9.trans (below_put13 (by omega))⟩
  case stop =>
    rintro D cd pre W hD ⟨init', x', e', hx', hA⟩ ⟨⟨rfl, init, x, rfl, h0, h1⟩, hr, hb⟩ hK
    obtain ⟨rfl, rfl⟩ : init = init' ∧ x = x' := by simpa using e'
    have hV := CS.out init x hA hx' h0 h1
    have HR := Lib.hid hr
    have HB := Lib.hid hb
    have HK := Lib.hid hK
    have hDw : w.heap.size < D := by omega
    have hlc : lastC L (init ++ [x]) = confIn (pe (L.getD x.1 Ez)) := by simp [lastC]
    rw [hlc] at HR
    clear hr hb hK
    gi_wp2
    refine ⟨by simp, .inl ⟨_, _, rfl, run_takeDeferred HK.out, ?_⟩⟩
    refine ⟨_, results_cell1 rfl _ _ w.heap.size (.int .i64 (confIn (pe (L.getD x.1 Ez)))) .i64 (by go_simp) ((World.putObj_heap_other (by omega)).trans HR.out : Row _ w.heap.size 3 [.int .i64 (confIn (pe (L.getD x.1 Ez)))]) Tryz.underlying3 (by kernel_rfl), ?_⟩
    exact ⟨by simp [hV, List.getD_eq_getElem?_getD], HB.out.trans (below_put13 (by omega))⟩
end Go.Proofs.YtjkkopbhdeljmaaGreat.W

namespace Go.Proofs.YtjkkopbhdeljmaaGreat.W
open Go Go.ChangeShapes Go.WideShapes Go.ChangeAt Go.RowKit

theorem run_built {P : Program} {w : World} {o : Oper} {a : Act} (ty : TypeId) (parts : Array (Nat × Operand)) (ho : o.op = .build ty parts) (L : List Value)
    (hb : P.built ty (parts.map fun (i, x) => (i, a.eval x)).toList = some L.toArray) : (execOp a.eval o).run P w = .ok (.value (.agg L.toArray)) w := by
  unfold execOp
  simp only [ho, Sem.run_bind, run_build w ty _ _ hb, Result.andThen_ok]
  rfl
set_option maxRecDepth 100000 in
set_option maxHeartbeats 4000000 in
theorem gconf (p : Nat) (F : Nat → Prop) (b t c : Int) (ea : Option Addr) (en ec : Nat) (L : List (En × List UInt8)) (w : World) (h : LG w p F b t c ea en ec L) (ho : LOK (lsOf b t c L)) : Calls Tryz.prog 26 #[.pointer (some ⟨p, 0, none⟩)] w fun x w' => x = .returned (.int .i64 ((lsOf b t c L).confAt (lsOf b t c L).last)) ∧ Below w.heap.size w w' := by
  have GL := Lib.hid (fun (W : World) (hb : Below w.heap.size w W) => glast p F b t c ea en ec L W (h.mono hb) ho)
  have GT := Lib.hid (fun (W : World) (hb : Below w.heap.size w W) => gconfAt p F b t c ea en ec L (lsOf b t c L).last W (h.mono hb) ho)
  obtain ⟨z, hz⟩ : ∃ z, (lsOf b t c L).last = z := ⟨_, rfl⟩
  rw [hz] at GL GT ⊢
  obtain ⟨y, hy⟩ : ∃ y, (lsOf b t c L).confAt z = y := ⟨_, rfl⟩
  rw [hy] at GT ⊢
  clear h ho hz hy
  go_enter Tryz.func26, Tryz.ntmps26
  go_wp2_with (first | (go_at_call 24; (with_reducible refine (GL.out w (Below.refl _ _)).mono ?_); rintro x w1 ⟨rfl, hb1⟩; have B1 := Lib.hid hb1; clear hb1) | (go_at_call 53; (with_reducible refine (GT.out w1 B1.out).mono ?_); rintro x w2 ⟨rfl, hb2⟩; have B2 := Lib.hid (B1.out.trans (hb2.mono B1.out.size)); clear hb2))
  go_ret
  exact ⟨rfl, B2.out⟩
set_option maxRecDepth 100000 in
set_option maxHeartbeats 4000000 in
theorem gcompact (p : Nat) (F : Nat → Prop) (b t c : Int) (ea : Option Addr) (en ec : Nat) (L : List (En × List UInt8)) (i : Int) (w : World) (h : LG w p F b t c ea en ec L) (ho : LOK (lsOf b t c L)) :
    Calls Tryz.prog 45 #[.pointer (some ⟨p, 0, none⟩), .int .i64 i] w fun x w' => ∃ b' t' c' en' L', x = .returned (.int .i64 ((lsOf b t c L).compact i).2) ∧ LG w' p F b' t' c' ea en' ec L' ∧ lsOf b' t' c' L' = ((lsOf b t c L).compact i).1 ∧ en' ≤ en ∧ Ft F w w' := by
  have H := Lib.hid h
  have hn : en ≤ 1000000 := by
    have h1 := ho.n
    have h2 := h.len
    rw [show (lsOf b t c L).l.length = en by rw [← h2]; simp [lsOf]] at h1
    omega
  have GT := Lib.hid (fun (W : World) (hb : Below w.heap.size w W) => gterm p F b t c ea en ec L i W (h.mono hb) ho)
  have GC := Lib.hid (fun (W : World) (hb : Below w.heap.size w W) => gconfAt p F b t c ea en ec L i W (h.mono hb) ho)
  have BS := Lib.hid base_size
  have hl : (lsOf b t c L).l = L.map pe := rfl
  unfold LS.compact
  obtain ⟨tv, htv⟩ : ∃ y, (lsOf b t c L).term i = y := ⟨_, rfl⟩
  obtain ⟨cv, hcv⟩ : ∃ y, (lsOf b t c L).confAt i = y := ⟨_, rfl⟩
  obtain ⟨ev, hev⟩ : ∃ y, (lsOf b t c L).termE i = y := ⟨_, rfl⟩
  have hev6 : ev = 0 ∨ ev = 6 := by rw [← hev]; unfold LS.termE; split; exact .inl rfl; split; exact .inl rfl; exact .inr rfl
  rw [htv, hev] at GT
  rw [hcv] at GC
  rw [htv, hcv, hev, hl]
  clear h ho htv hcv hev hl
  rcases hev6 with rfl | rfl
  · rw [if_pos rfl]
    have BB := Lib.hid (built_base i tv cv)
    go_enter Tryz.func45, Tryz.ntmps45
    go_wp2_with (first
      | (with_reducible refine box_cell (o := ⟨some 3, _, _, _, _, _⟩) rfl _ _ rfl (.int .i64 i) rfl rfl ?_; intro w1 hr1 hb1 hz1; have R1 := Lib.hid hr1; have B1 := Lib.hid hb1; have d0 := R1.out.k0; clear hr1 hb1 hz1)
      | (go_at_call 52; (with_reducible refine (GT.out w1 B1.out).mono ?_); rintro x w2 ⟨rfl, hb⟩; have B2 := Lib.hid (B1.out.trans (hb.mono B1.out.size)); have R2 := Lib.hid (R1.out.below hb R1.out.lt); clear hb d0; have d0 := R2.out.k0))
    refine region_t (fun v => Below w2.heap.size w2 v) 9 (by kernel_rfl) (by kernel_rfl) (by kernel_rfl) (Below.refl _ _).drew ?_
    obtain ⟨wd, hwd⟩ : ∃ wd, w2.drew = wd := ⟨_, rfl⟩
    have D0 : Hid (Below w2.heap.size w2 wd) := Lib.hid (by rw [← hwd]; exact (Below.refl _ _).drew)
    rw [hwd]
    clear hwd
    (refine t_read 0 rfl (by kernel_rfl) (by kernel_rfl) (by kernel_rfl) (t_free rfl) ?_ ?_ ?_; rotate_left; (focus (intro v hv; go_simp; rfl)); go_simp)
    (refine t_read 1 rfl (by kernel_rfl) (by kernel_rfl) (by kernel_rfl) (t_free rfl) ?_ ?_ ?_; rotate_left; (focus (intro v hv; have d0 := (R2.out.below hv R2.out.lt).k0; go_simp; rfl)); go_simp)
    (refine t_read 2 rfl (by kernel_rfl) (by kernel_rfl) (by kernel_rfl) (t_free rfl) ?_ ?_ ?_; rotate_left; (focus (intro v hv; go_simp; rfl)); go_simp)
    (refine t_read 3 rfl (by kernel_rfl) (by kernel_rfl) (by kernel_rfl) (t_free rfl) ?_ ?_ ?_; rotate_left; (focus (intro v hv; go_simp; rfl)); go_simp)
    (refine t_read 4 rfl (by kernel_rfl) (by kernel_rfl) (by kernel_rfl) (t_free rfl) ?_ ?_ ?_; rotate_left; (focus (intro v hv; have d0 := (R2.out.below hv R2.out.lt).k0; go_simp; rfl)); go_simp)
    (refine t_call 5 rfl (by kernel_rfl) rfl (t_free rfl) 53 ?_ ?_ ?_; rotate_left; (focus (go_simp; rfl)))
    refine (GC.out wd (B2.out.trans (D0.out.mono B2.out.size))).mono ?_
    rintro x v1 ⟨rfl, hb⟩
    have J1 := Lib.hid (D0.out.trans (hb.mono D0.out.size))
    clear hb
    refine ⟨_, rfl, J1.out, ?_⟩
    go_simp
    (refine t_read 6 rfl (by kernel_rfl) (by kernel_rfl) (by kernel_rfl) (t_free rfl) ?_ ?_ ?_; rotate_left; (focus (intro v hv; refine run_built 87 #[(0, .tmp 17), (1, .tmp 18), (2, .tmp 21)] ?_ [.int .i64 i, .int .i64 tv, .int .i64 cv] ?_; (focus rfl); go_simp; exact BB.out)); go_simp)
    (refine t_one 7 rfl (by kernel_rfl) rfl rfl ?_ ?_ ?_; rotate_left; (focus (go_simp; rfl)); go_simp)
    (refine t_read 8 rfl (by kernel_rfl) (by kernel_rfl) (by kernel_rfl) (t_free rfl) ?_ ?_ ?_; rotate_left; (focus (intro v hv; go_simp; rfl)); go_simp)
    (refine t_last 9 rfl (by kernel_rfl) rfl (by kernel_rfl) (by kernel_rfl) ?_; intro K hK)
    have V1 := Lib.hid (B2.out.trans (J1.out.mono B2.out.size))
    have HV := Lib.hid (H.out.mono V1.out)
    have RV := Lib.hid (R2.out.below J1.out R2.out.lt)
    refine store_part rfl _ _ _ rfl p 1 [.int .i64 i, .int .i64 tv, .int .i64 cv] (by go_simp) (by first | (go_simp; done) | (go_simp; rfl)) 89 _ HV.out.row BS.out (by show 1 + 3 ≤ 5; decide) (int3_one _ _ _) ?_
    intro w3 hr3 hu3
    have R3 : Hid (Row w3 p 89 [.bool true, .int .i64 i, .int .i64 tv, .int .i64 cv, .slice ea en ec]) := Lib.hid hr3
    have U3 := Lib.hid hu3
    have hpw : w.heap.size ≠ p := fun e => absurd (H.out.lt p H.out.fp) (by omega)
    have RB3 := Lib.hid (RV.out.upd hu3 hpw)
    have H3 : Hid (LG w3 p F i tv cv ea en ec L) := Lib.hid ⟨R3.out, HV.out.es.upd hu3 (fun x off e => (HV.out.ne x off e).2), HV.out.ne, fun x hx => EnF.put13 (HV.out.fit x hx) HV.out.row (NB_lg _ _ _ _ _ _) hu3, HV.out.fa, HV.out.fp, fun k hk => by rw [hu3.size]; exact HV.out.lt k hk⟩
    have F3 : Hid (Ft F w w3) := Lib.hid ((Ft.of_below V1.out).trans (Ft.of_upd hu3 H.out.fp))
    clear hr3 hu3
    refine hK _ _ ?_
    go_simp
    go_wp2_with (first
      | (go_at_call 82; refine (gdrop1 p F i tv cv ea en ec L i w.heap.size w3 H3.out hn RB3.out (fun hf => Nat.lt_irrefl _ (H.out.lt _ hf))).mono ?_; rintro x w4 ⟨⟨v, rfl⟩, en', L', hL, hle, hpe, hft⟩; have L4 := Lib.hid hL; have PE4 := Lib.hid hpe; have FT4 := Lib.hid hft; have LE4 := Lib.hid hle; clear hL hle hpe hft))
    go_ret
    exact ⟨i, tv, cv, en', L', rfl, L4.out, by unfold lsOf; rw [PE4.out], LE4.out, F3.out.trans FT4.out⟩

  · rw [if_neg (by decide)]
    go_enter Tryz.func45, Tryz.ntmps45
    go_wp2_with (first
      | (with_reducible refine box_cell (o := ⟨some 3, _, _, _, _, _⟩) rfl _ _ rfl (.int .i64 i) rfl rfl ?_; intro w1 hr1 hb1 hz1; have R1 := Lib.hid hr1; have B1 := Lib.hid hb1; have d0 := R1.out.k0; clear hr1 hb1 hz1)
      | (go_at_call 52; (with_reducible refine (GT.out w1 B1.out).mono ?_); rintro x w2 ⟨rfl, hb⟩; have B2 := Lib.hid (B1.out.trans (hb.mono B1.out.size)); have R2 := Lib.hid (R1.out.below hb R1.out.lt); clear hb d0; have d0 := R2.out.k0))
    go_ret
    exact ⟨b, t, c, en, L, rfl, H.out.mono B2.out, rfl, Nat.le_refl _, Ft.of_below B2.out⟩
end Go.Proofs.YtjkkopbhdeljmaaGreat.W

namespace Go.Proofs.YtjkkopbhdeljmaaGreat.W
open Go Go.ChangeShapes Go.WideShapes Go.ChangeAt Go.RowKit

/-- entries of the call's own, each with its bytes; all in blocks from base on -/
structure Fre (w : World) (base : Nat) (a : Option Addr) (n c : Nat) (L : List (En × List UInt8)) : Prop where
  es : EnO w a n c (L.map (·.1))
  fit : ∀ x ∈ L, EnF w x.1 x.2
  ne : ∀ x off, a = some ⟨x, off, none⟩ → base ≤ x
  fa : ∀ x ∈ L, x.1.n ≠ 0 → ∀ k off, x.1.a = some ⟨k, off, none⟩ → base ≤ k
theorem Fre.nil (w : World) (base : Nat) : Fre w base none 0 0 [] := ⟨EnO.nil _, by simp, (fun _ _ e => by cases e), by simp⟩
theorem Fre.len {w : World} {base : Nat} {a : Option Addr} {n c : Nat} {L : List (En × List UInt8)} (h : Fre w base a n c L) : L.length = n := by have := h.es.1; simpa using this
theorem Fre.ents {w : World} {base : Nat} {a : Option Addr} {n c : Nat} {L : List (En × List UInt8)} (h : Fre w base a n c L) : Ents w a n c L := h.es.ents rfl h.fit
theorem Fre.mono {w w' : World} {base : Nat} {a : Option Addr} {n c : Nat} {L : List (En × List UInt8)} (h : Fre w base a n c L) (hb : Below w.heap.size w w') : Fre w' base a n c L :=
  ⟨h.es.mono hb, fun x hx => (h.fit x hx).mono hb, h.ne, h.fa⟩
/-- one entry more: behind its copy and the slice of one, append -/
theorem Fre.app {w w1 w2 w3 : World} {base : Nat} {a a' : Option Addr} {n c c' : Nat} {L : List (En × List UInt8)} {e : En} {l : List UInt8} (h : Fre w base a n c L) (hb : Below w.heap.size w w1) (hw : base ≤ w.heap.size)
    (hr : Rd w1 e.a e.n e.c l) (hf : ∀ k off, e.a = some ⟨k, off, none⟩ → w.heap.size ≤ k) (hx : I64 e.ix) (ht : I64 e.tm) (hk : I64 e.kd)
    (hg : Row w2 w1.heap.size 69 e.cells) (hb2 : Below w1.heap.size w1 w2) (ho : EnO w3 a' (n + 1) c' (L.map (·.1) ++ [e]))
    (hc : (∃ g, a = some ⟨g, 0, none⟩ ∧ a' = a ∧ c' = c ∧ n < c ∧ Upd w2 w3 g) ∨ (a' = some ⟨w2.heap.size, 0, none⟩ ∧ Below w2.heap.size w2 w3)) : Fre w3 base a' (n + 1) c' (L ++ [(e, l)]) ∧ Below base w w3 := by
  have hB : Below w.heap.size w w2 := hb.trans (hb2.mono hb.size)
  have O2 := h.es.mono hB
  have hns : base ≤ w2.heap.size := Nat.le_trans hw hB.size
  have hG := grow2 ⟨_, Lib.hid O2⟩ hc (by
    rcases hc with ⟨g, h1, h2, -, -, hu⟩ | ⟨h1, h2⟩
    · right
      intro x hx
      rw [h2, h1] at hx
      have e1 : g = w2.heap.size := congrArg Addr.block (Option.some.inj hx)
      rcases O2.2 with ⟨h3, -⟩ | ⟨g', R, h3, h4, -⟩
      · rw [h3] at h1; cases h1
      · rw [h3] at h1
        have := h4.lt
        have e2 : g' = g := congrArg Addr.block (Option.some.inj h1)
        omega
    · left
      rcases ho.2 with ⟨h3, -⟩ | ⟨g, R, h3, h4, -⟩
      · rw [h3] at h1; cases h1
      · have h5 := h4.lt
        rw [h3] at h1
        have : g = w2.heap.size := congrArg Addr.block (Option.some.inj h1)
        omega)
  have hbl : Below base w w3 := by
    rcases hc with ⟨g, h1, -, -, -, hu⟩ | ⟨-, hb3⟩
    · exact (hB.mono hw).trans (hu.below (h.ne g 0 h1))
    · exact (hB.mono hw).trans (hb3.mono hns)
  refine ⟨⟨by rw [List.map_append]; exact ho, fun x hx' => ?_, fun x off e' => ?_, fun x hx' hn0 k off e' => ?_⟩, hbl⟩
  · rcases List.mem_append.1 hx' with hx' | hx'
    · exact hG.1.en ((h.fit x hx').mono hB)
    · rw [List.mem_singleton.1 hx']
      exact ⟨hx, ht, hk, hG.1.rd (hr.mono hb2)⟩
  · rcases hG.2.2 x off e' with ⟨o, e2⟩ | ⟨h1, h2⟩
    · exact h.ne x o e2
    · omega
  · rcases List.mem_append.1 hx' with hx' | hx'
    · exact h.fa x hx' hn0 k off e'
    · rw [List.mem_singleton.1 hx'] at e'
      exact Nat.le_trans hw (hf k off e')
theorem take_drop_pe (L : List (En × List UInt8)) {k j : Nat} (h : k + j < L.length) : ((L.map pe).drop k).take (j + 1) = ((L.map pe).drop k).take j ++ [pe (L.getD (k + j) Ez)] := by
  have h1 : j < ((L.map pe).drop k).length := by rw [List.length_drop, List.length_map]; omega
  rw [List.take_succ_eq_append_getElem h1]
  congr 2
  simp [List.getD_eq_getElem?_getD, h]
set_option maxRecDepth 100000 in
set_option maxHeartbeats 8000000 in
theorem gfrom (p : Nat) (F : Nat → Prop) (b t c : Int) (ea : Option Addr) (en ec : Nat) (L : List (En × List UInt8)) (i m : Int) (w : World) (h : LG w p F b t c ea en ec L) (ho : LOK (lsOf b t c L)) (wm : (Lit.int .i64 m).wf = true) :
    Calls Tryz.prog 48 #[.pointer (some ⟨p, 0, none⟩), .int .i64 i, .int .i64 m] w fun x w' => ∃ a n cp R, x = .returned (.slice a n cp) ∧ Fre w' w.heap.size a n cp R ∧ R.map pe = (lsOf b t c L).from i m ∧ Below w.heap.size w w' := by
  have hl := h.len
  have hb := ho.b
  have hn := ho.n
  rw [show (lsOf b t c L).l.length = en by rw [← hl]; simp [lsOf]] at hn
  dsimp only [lsOf] at hb
  have RD := Lib.hid (gready p F b t c ea en ec L w h ho)
  have GH := Lib.hid (fun (W : World) (hb : Below w.heap.size w W) => ghas p F b t c ea en ec L i W (h.mono hb) ho)
  have GP := Lib.hid (fun (W : World) (hb : Below w.heap.size w W) => gplace p F b t c ea en ec L i W (h.mono hb) ho)
  have HG := Lib.hid h
  have HO := Lib.hid ho
  have HL := Lib.hid hl
  unfold LS.from
  rcases hhas : (lsOf b t c L).has i with _ | _
  · rw [hhas] at GH
    rw [if_neg (by decide)]
    clear h ho hhas GP hl hb hn wm
    go_enter Tryz.func48, Tryz.ntmps48
    go_wp2_with (first | (go_at_call 51; (with_reducible refine RD.out.mono ?_); rintro x w1 ⟨rfl, rfl⟩) | (go_at_call 85; (with_reducible refine (GH.out w (Below.refl _ _)).mono ?_); rintro x w1 ⟨rfl, hb1⟩; have B1 := Lib.hid hb1; clear hb1))
    go_ret
    exact ⟨none, 0, 0, [], rfl, Fre.nil _ _, rfl, B1.out⟩
  · rw [hhas] at GH
    rw [if_pos rfl]
    have hh : b < i ∧ i ≤ b + (en : Int) := by
      unfold LS.has LS.last lsOf at hhas
      simp at hhas
      rw [hl] at hhas
      exact hhas
    obtain ⟨k, hk⟩ : ∃ k : Nat, i = b + 1 + (k : Int) := ⟨(i - b - 1).toNat, by omega⟩
    have hkn : k < en := by omega
    have hpv : i - b - 1 = (k : Int) := by omega
    have hkt : (i - (lsOf b t c L).b - 1).toNat = k := by show (i - b - 1).toNat = k; omega
    rw [hkt]
    have GPx := Lib.hid (fun (W : World) (hb : Below w.heap.size w W) => GP.out W hb (by omega))
    rw [hpv] at GPx
    obtain ⟨g, R0, hea, hrow, hR0, hle, hmx, htk⟩ : ∃ g R, ea = some ⟨g, 0, none⟩ ∧ Row w g 69 (flat R) ∧ R.length = ec ∧ en ≤ ec ∧ ec ≤ maxLen ∧ R.take en = L.map (·.1) := by
      rcases h.es.2 with ⟨-, h2, -⟩ | h2
      · omega
      · exact h2
    subst hea
    have HROW := Lib.hid hrow
    have hqm2 : (lsOf b t c L).l.drop k = (L.map pe).drop k := rfl
    rw [hqm2]
    obtain ⟨n1, hn1⟩ : ∃ n1, en - k = n1 := ⟨_, rfl⟩
    obtain ⟨c1, hc1⟩ : ∃ c1, ec - k = c1 := ⟨_, rfl⟩
    have hdl : ((L.map pe).drop k).length = n1 := by rw [List.length_drop, List.length_map, hl]; exact hn1
    have hkn1 : k + n1 ≤ en := by omega
    have hnc1 : n1 ≤ c1 := by omega
    have hcm : n1 ≤ 1000000 := by omega
    have hck : ¬ ec = k := by omega
    have HN1 := Lib.hid hn1
    have HC1 := Lib.hid hc1
    have HDL := Lib.hid hdl
    have HKN := Lib.hid hkn1
    have HE := Lib.hid (fun (W : World) (hb : Below w.heap.size w W) (j : Nat) (hj : j < en) => h.ents.at hb j hj)
    have HFIT := Lib.hid (fun (k : Nat) (hk : k < en) => (show (L.getD k Ez).1.n ≤ 140737488355000 from by
      have hm : L.getD k Ez ∈ L := by rw [show L.getD k Ez = L[k]'(by omega) by simp [List.getD_eq_getElem?_getD, show k < L.length by omega]]; exact List.getElem_mem _
      have := ho.x (pe (L.getD k Ez)) (List.mem_map.2 ⟨_, hm, rfl⟩)
      have h3 := (h.fit _ hm).rd.hlen
      have h4 : (L.getD k Ez).2.length ≤ 4096 := this
      omega))
    have ES := Lib.hid en_size
    have EZ := Lib.hid en_zero
    have g1 : (0 : Int) ≤ (k : Int) := by omega
    have g2 : (k : Int) ≤ (en : Int) := by omega
    have g3 : k ≤ ec := by omega
    clear h ho hhas GP hrow htk hqm2 hkt hk hpv hh hl hb hn hn1 hc1 hdl hkn1
    have HB1x := Lib.hid hck
    go_enter Tryz.func48, Tryz.ntmps48
    go_wp2_with (first | (go_at_call 51; (with_reducible refine RD.out.mono ?_); rintro x w1 ⟨rfl, rfl⟩) | (go_at_call 85; (with_reducible refine (GH.out w (Below.refl _ _)).mono ?_); rintro x w1 ⟨rfl, hb1⟩; have B1 := Lib.hid hb1; clear hb1))
    refine region_h (fun v => Below w1.heap.size w1 v) (by kernel_rfl) (by kernel_rfl) (Below.refl _ _).drew ?_
    obtain ⟨wd, hwd⟩ : ∃ wd, w1.drew = wd := ⟨_, rfl⟩
    have D0 : Hid (Below w1.heap.size w1 wd) := Lib.hid (by rw [← hwd]; exact (Below.refl _ _).drew)
    rw [hwd]
    clear hwd
    (refine h_read 0 rfl (by kernel_rfl) (by kernel_rfl) (h_free rfl) ?_ ?_ ?_; rotate_left; (focus (intro v hv; go_simp; rfl)); go_simp)
    (refine h_read 1 rfl (by kernel_rfl) (by kernel_rfl) (h_free rfl) ?_ ?_ ?_; rotate_left; (focus (intro v hv; go_simp; rfl)); go_simp)
    (refine h_read 2 rfl (by kernel_rfl) (by kernel_rfl) (h_free rfl) ?_ ?_ ?_; rotate_left; (focus (intro v hv; go_simp; rfl)); go_simp)
    (refine h_read 3 rfl (by kernel_rfl) (by kernel_rfl) (h_free rfl) ?_ ?_ ?_; rotate_left; (focus (intro v hv; have hbv := B1.out.trans (hv.mono B1.out.size); have H9 := HG.out.mono hbv; obtain ⟨c0, c1, c2, c3, c4⟩ := H9.row.c5; go_simp; rfl)); go_simp)
    (refine h_read 4 rfl (by kernel_rfl) (by kernel_rfl) (h_free rfl) ?_ ?_ ?_; rotate_left; (focus (intro v hv; go_simp; rfl)); go_simp)
    (refine h_read 5 rfl (by kernel_rfl) (by kernel_rfl) (h_free rfl) ?_ ?_ ?_; rotate_left; (focus (intro v hv; go_simp; rfl)); go_simp)
    (refine h_call 6 rfl (by kernel_rfl) (h_free rfl) 86 ?_ ?_ ?_; rotate_left; (focus (go_simp; rfl)))
    refine (GPx.out wd (B1.out.trans (D0.out.mono B1.out.size))).mono ?_
    rintro x w2 ⟨rfl, rfl⟩
    refine ⟨_, rfl, D0.out, ?_⟩
    go_simp
    (refine h_read 7 rfl (by kernel_rfl) (by kernel_rfl) (h_free rfl) ?_ ?_ ?_; rotate_left; (focus (intro v hv; go_simp; rfl)); go_simp)
    (refine h_read 8 rfl (by kernel_rfl) (by kernel_rfl) (h_free rfl) ?_ ?_ ?_; rotate_left; (focus (intro v hv; go_simp; rfl)); go_simp)
    refine h_done (by kernel_rfl) ?_

    rw [HN1.out, HC1.out]
    by_cases hm0 : m < 0
    · have HT := Lib.hid (show ((L.map pe).drop k).take m.toNat = ((L.map pe).drop k).take 0 by rw [show m.toNat = 0 by omega])
      have BD := Lib.hid (B1.out.trans (D0.out.mono B1.out.size))
      go_wp2_with fail
      go_loopw [8, 36] (fun v iv wr => ∃ (j : Nat) (a : Option Addr) (cp : Nat) (R : List (En × List UInt8)), v = .slice a j cp ∧ iv = .int .i64 (j : Int) ∧ j ≤ 0 ∧ Hid (Fre wr w.heap.size a j cp R) ∧ Hid (R.map pe = ((L.map pe).drop k).take j) ∧ Hid (Below w.heap.size w wr)) (fun _ iv _ => 0 - (intOf iv).toNat)
      case atStart => exact ⟨0, none, 0, [], rfl, rfl, Nat.zero_le _, Lib.hid (Fre.nil _ _), Lib.hid rfl, BD⟩
      case round =>
        obtain ⟨j, a, cp, R, rfl, rfl, hj, HF, HR, HB⟩ := hrel
        by_cases hlt : j < 0
        · exact absurd hlt (Nat.not_lt_zero _)
        · obtain rfl : j = 0 := by omega
          go_wp2_with fail
          go_ret
          exact ⟨a, _, cp, R, rfl, HF.out, by rw [HT.out]; exact HR.out, HB.out⟩
    · by_cases hm1 : (n1 : Int) < m
      · have hm2 : 0 ≤ m := by omega
        have HT := Lib.hid (show ((L.map pe).drop k).take m.toNat = ((L.map pe).drop k).take n1 by rw [List.take_of_length_le (by rw [HDL.out]; omega), List.take_of_length_le (by rw [HDL.out]; exact Nat.le_refl _)])
        have BD := Lib.hid (B1.out.trans (D0.out.mono B1.out.size))
        go_wp2_with fail
        go_loopw [8, 36] (fun v iv wr => ∃ (j : Nat) (a : Option Addr) (cp : Nat) (R : List (En × List UInt8)), v = .slice a j cp ∧ iv = .int .i64 (j : Int) ∧ j ≤ n1 ∧ Hid (Fre wr w.heap.size a j cp R) ∧ Hid (R.map pe = ((L.map pe).drop k).take j) ∧ Hid (Below w.heap.size w wr)) (fun _ iv _ => n1 - (intOf iv).toNat)
        case atStart => exact ⟨0, none, 0, [], rfl, rfl, Nat.zero_le _, Lib.hid (Fre.nil _ _), Lib.hid rfl, BD⟩
        case round =>
          obtain ⟨j, a, cp, R, rfl, rfl, hj, HF, HR, HB⟩ := hrel
          by_cases hlt : j < n1
          · have hkj : k + j < en := by have := HKN.out; omega
            have hjm : j ≤ 1000000 := by omega
            obtain ⟨x1, o1, he1, hx1, hf1, hk1⟩ := HE.out wr HB.out (k + j) hkj
            simp only [Option.some.injEq, Addr.mk.injEq, and_true] at he1
            obtain ⟨rfl, rfl⟩ := he1
            have hnx := HFIT.out (k + j) hkj
            have hstep := take_drop_pe L (k := k) (j := j) hk1
            obtain ⟨⟨e, l⟩, hq⟩ : ∃ y, L.getD (k + j) Ez = y := ⟨_, rfl⟩
            rw [hq] at hx1 hf1 hnx hstep
            dsimp only at hx1 hf1 hnx
            have X1 : Hid (∀ i v, e.cells[i]? = some v → wr.cell? ⟨g, k * 4 + j * 4 + i, none⟩ = some v) := Lib.hid (fun i v hv => by have := hx1 i v hv; rw [show k * 4 + j * 4 + i = 0 + (k + j) * 4 + i by omega]; exact this)
            have F1 := Lib.hid hf1
            have HS := Lib.hid hstep
            have g5 : (0 : Int) ≤ (j : Int) := by omega
            have g6 : (j : Int) < (n1 : Int) := by omega
            clear hx1 hf1 hq hk1 hstep hkj
            go_wp2_with (first
              | ((with_reducible refine load_cells (o := ⟨some 39, _, _, _, _, _⟩) rfl _ _ rfl g (k * 4 + j * 4) ?_ e.cells _ X1.out Tryz.underlying69 rfl ?_ ?_); (focus go_simp); (focus (exact ES.out)))
              | ((with_reducible refine alloc_row (o := ⟨some 10, _, _, _, _, _⟩) rfl _ rfl _ EZ.out ?_); intro w2 hr hb hz; have E2 := Lib.hid hr; have C2 := Lib.hid hb; clear hr hb hz)
              | ((with_reducible refine store_row (o := ⟨none, _, _, _, _, _⟩) rfl _ (.tmp 10) _ rfl wr.heap.size e.cells ?_ ?_ 69 _ E2.out ?_ ?_ (cells_one _) ?_); (focus go_simp); (focus (first | (go_simp; done) | (go_simp; rfl))); (focus (exact ES.out)); (focus rfl); intro w3 hr hu; have E3 := Lib.hid hr; have C3 := Lib.hid (C2.out.trans (hu.below (Nat.le_refl _))); clear hr hu)
              | ((with_reducible refine load_row (o := ⟨some 41, _, _, _, _, _⟩) rfl _ _ rfl wr.heap.size ?_ _ e.cells _ E3.out Tryz.underlying69 rfl ?_ ?_); (focus go_simp); (focus (exact ES.out)))
              | (go_at_call 87; (with_reducible refine (gcopied e l w3 ?_ hnx).mono ?_); (focus (exact F1.out.rd.mono C3.out)); rintro x w4 ⟨ra, rc, rfl, hrd, hfr, hb⟩; have R4 := Lib.hid hrd; have FR4 := Lib.hid (fun b off e' => Nat.le_trans C3.out.size (hfr b off e')); have C4 := Lib.hid (C3.out.trans (hb.mono C3.out.size)); clear hrd hfr hb)
              | ((with_reducible refine build_en (o := ⟨some 43, _, _, _, _, _⟩) rfl _ rfl ⟨e.ix, e.tm, e.kd, ra, e.n, rc⟩ ?_ ?_); (focus go_simp); intro w5 hr5 hb5 hz5; have A5 := Lib.hid hr5; have C5 := Lib.hid hb5; have Oa := Lib.hid ((HF.out.mono (C4.out.trans (hb5.mono C4.out.size))).es); clear hr5 hb5 hz5)
              | (at_builtin; (refine append_en rfl _ _ rfl a j cp (R.map (·.1)) (by go_simp) Oa.out hjm ⟨w4.heap.size, 0, none⟩ 1 ⟨e.ix, e.tm, e.kd, ra, e.n, rc⟩ (by go_simp) (fun i u hi => by rw [Go.WideShapes.add_plain, Nat.zero_add, A5.out.cellV]; exact hi) ?_); intro a' cp' w6 ho hcase; have AP := Lib.hid (Fre.app (l := l) (e := ⟨e.ix, e.tm, e.kd, ra, e.n, rc⟩) HF.out C4.out HB.out.size R4.out FR4.out F1.out.ix F1.out.tm F1.out.kd A5.out C5.out ho hcase); clear ho hcase))
            go_roundw
            case rel => exact ⟨j + 1, a', cp', R ++ [(⟨e.ix, e.tm, e.kd, ra, e.n, rc⟩, l)], rfl, vint (by omega), by omega, Lib.hid AP.out.1, Lib.hid (by rw [List.map_append, HR.out, HS.out]; rfl), Lib.hid (HB.out.trans AP.out.2)⟩
            case measure => (simp [intOf]; try omega)
          · obtain rfl : j = n1 := by omega
            go_wp2_with fail
            go_ret
            exact ⟨a, _, cp, R, rfl, HF.out, by rw [HT.out]; exact HR.out, HB.out⟩
      · obtain ⟨q, rfl⟩ : ∃ q : Nat, m = (q : Int) := ⟨m.toNat, by omega⟩
        have hqn : q ≤ n1 := by omega
        have hm2 : (0 : Int) ≤ (q : Int) := by omega
        have hm3 : (q : Int) ≤ (n1 : Int) := by omega
        have HT := Lib.hid (show ((L.map pe).drop k).take ((q : Int)).toNat = ((L.map pe).drop k).take q by rw [Int.toNat_natCast])
        have BD := Lib.hid (B1.out.trans (D0.out.mono B1.out.size))
        go_wp2_with fail
        go_loopw [8, 36] (fun v iv wr => ∃ (j : Nat) (a : Option Addr) (cp : Nat) (R : List (En × List UInt8)), v = .slice a j cp ∧ iv = .int .i64 (j : Int) ∧ j ≤ q ∧ Hid (Fre wr w.heap.size a j cp R) ∧ Hid (R.map pe = ((L.map pe).drop k).take j) ∧ Hid (Below w.heap.size w wr)) (fun _ iv _ => q - (intOf iv).toNat)
        case atStart => exact ⟨0, none, 0, [], rfl, rfl, Nat.zero_le _, Lib.hid (Fre.nil _ _), Lib.hid rfl, BD⟩
        case round =>
          obtain ⟨j, a, cp, R, rfl, rfl, hj, HF, HR, HB⟩ := hrel
          by_cases hlt : j < q
          · have hkj : k + j < en := by have := HKN.out; omega
            have hjm : j ≤ 1000000 := by omega
            obtain ⟨x1, o1, he1, hx1, hf1, hk1⟩ := HE.out wr HB.out (k + j) hkj
            simp only [Option.some.injEq, Addr.mk.injEq, and_true] at he1
            obtain ⟨rfl, rfl⟩ := he1
            have hnx := HFIT.out (k + j) hkj
            have hstep := take_drop_pe L (k := k) (j := j) hk1
            obtain ⟨⟨e, l⟩, hq⟩ : ∃ y, L.getD (k + j) Ez = y := ⟨_, rfl⟩
            rw [hq] at hx1 hf1 hnx hstep
            dsimp only at hx1 hf1 hnx
            have X1 : Hid (∀ i v, e.cells[i]? = some v → wr.cell? ⟨g, k * 4 + j * 4 + i, none⟩ = some v) := Lib.hid (fun i v hv => by have := hx1 i v hv; rw [show k * 4 + j * 4 + i = 0 + (k + j) * 4 + i by omega]; exact this)
            have F1 := Lib.hid hf1
            have HS := Lib.hid hstep
            have g5 : (0 : Int) ≤ (j : Int) := by omega
            have g6 : (j : Int) < (q : Int) := by omega
            clear hx1 hf1 hq hk1 hstep hkj
            go_wp2_with (first
              | ((with_reducible refine load_cells (o := ⟨some 39, _, _, _, _, _⟩) rfl _ _ rfl g (k * 4 + j * 4) ?_ e.cells _ X1.out Tryz.underlying69 rfl ?_ ?_); (focus go_simp); (focus (exact ES.out)))
              | ((with_reducible refine alloc_row (o := ⟨some 10, _, _, _, _, _⟩) rfl _ rfl _ EZ.out ?_); intro w2 hr hb hz; have E2 := Lib.hid hr; have C2 := Lib.hid hb; clear hr hb hz)
              | ((with_reducible refine store_row (o := ⟨none, _, _, _, _, _⟩) rfl _ (.tmp 10) _ rfl wr.heap.size e.cells ?_ ?_ 69 _ E2.out ?_ ?_ (cells_one _) ?_); (focus go_simp); (focus (first | (go_simp; done) | (go_simp; rfl))); (focus (exact ES.out)); (focus rfl); intro w3 hr hu; have E3 := Lib.hid hr; have C3 := Lib.hid (C2.out.trans (hu.below (Nat.le_refl _))); clear hr hu)
              | ((with_reducible refine load_row (o := ⟨some 41, _, _, _, _, _⟩) rfl _ _ rfl wr.heap.size ?_ _ e.cells _ E3.out Tryz.underlying69 rfl ?_ ?_); (focus go_simp); (focus (exact ES.out)))
              | (go_at_call 87; (with_reducible refine (gcopied e l w3 ?_ hnx).mono ?_); (focus (exact F1.out.rd.mono C3.out)); rintro x w4 ⟨ra, rc, rfl, hrd, hfr, hb⟩; have R4 := Lib.hid hrd; have FR4 := Lib.hid (fun b off e' => Nat.le_trans C3.out.size (hfr b off e')); have C4 := Lib.hid (C3.out.trans (hb.mono C3.out.size)); clear hrd hfr hb)
              | ((with_reducible refine build_en (o := ⟨some 43, _, _, _, _, _⟩) rfl _ rfl ⟨e.ix, e.tm, e.kd, ra, e.n, rc⟩ ?_ ?_); (focus go_simp); intro w5 hr5 hb5 hz5; have A5 := Lib.hid hr5; have C5 := Lib.hid hb5; have Oa := Lib.hid ((HF.out.mono (C4.out.trans (hb5.mono C4.out.size))).es); clear hr5 hb5 hz5)
              | (at_builtin; (refine append_en rfl _ _ rfl a j cp (R.map (·.1)) (by go_simp) Oa.out hjm ⟨w4.heap.size, 0, none⟩ 1 ⟨e.ix, e.tm, e.kd, ra, e.n, rc⟩ (by go_simp) (fun i u hi => by rw [Go.WideShapes.add_plain, Nat.zero_add, A5.out.cellV]; exact hi) ?_); intro a' cp' w6 ho hcase; have AP := Lib.hid (Fre.app (l := l) (e := ⟨e.ix, e.tm, e.kd, ra, e.n, rc⟩) HF.out C4.out HB.out.size R4.out FR4.out F1.out.ix F1.out.tm F1.out.kd A5.out C5.out ho hcase); clear ho hcase))
            go_roundw
            case rel => exact ⟨j + 1, a', cp', R ++ [(⟨e.ix, e.tm, e.kd, ra, e.n, rc⟩, l)], rfl, vint (by omega), by omega, Lib.hid AP.out.1, Lib.hid (by rw [List.map_append, HR.out, HS.out]; rfl), Lib.hid (HB.out.trans AP.out.2)⟩
            case measure => (simp [intOf]; try omega)
          · obtain rfl : j = q := by omega
            go_wp2_with fail
            go_ret
            exact ⟨a, _, cp, R, rfl, HF.out, by rw [HT.out]; exact HR.out, HB.out⟩
end Go.Proofs.YtjkkopbhdeljmaaGreat.W

namespace Go.Proofs.YtjkkopbhdeljmaaGreat.W
open Go Go.ChangeShapes Go.WideShapes Go.ChangeAt Go.RowKit

theorem rise_get : ∀ (l : List Pe) (b : Int) (j : Nat) (hj : j < l.length), rise b l → (l[j]).1 = b + 1 + j
  | x :: l, b, 0, _, h => by have := h.1; simp; omega
  | x :: l, b, j + 1, hj, h => by
    have := rise_get l (b + 1) j (by simpa using hj) h.2
    rw [List.getElem_cons_succ, this]; omega
theorem confL_cat (i : Int) : ∀ (A B : List Pe) (c : Int), confL i c (A ++ B) = confL i (confL i c A) B
  | [], _, _ => rfl
  | x :: A, B, c => confL_cat i A B _
theorem confL_high (i : Int) : ∀ (B : List Pe) (c : Int), (∀ x ∈ B, ¬ x.1 ≤ i) → confL i c B = c
  | [], _, _ => rfl
  | x :: B, c, h => by
    unfold confL
    rw [if_neg (fun k => h x List.mem_cons_self k.1)]
    exact confL_high i B c (fun y hy => h y (List.mem_cons_of_mem _ hy))
theorem confL_eq (i j : Int) : ∀ (A : List Pe) (c : Int), (∀ x ∈ A, x.1 ≤ i ∧ x.1 ≤ j) → confL i c A = confL j c A
  | [], _, _ => rfl
  | x :: A, c, h => by
    have h1 := h x List.mem_cons_self
    unfold confL
    simp only [h1.1, h1.2, true_and]
    exact confL_eq i j A _ (fun y hy => h y (List.mem_cons_of_mem _ hy))
/-- a place that a log can be compacted to -/
theorem termE_in {q : LS} {i : Int} (h1 : q.b ≤ i) (h2 : i ≤ q.last) : q.termE i = 0 := by
  unfold LS.termE
  split
  · rfl
  · rename_i h
    have : q.has i = true := by unfold LS.has; simp; omega
    rw [if_pos this]
theorem compact_is {q : LS} (h : LOK q) {i : Int} (h1 : q.b ≤ i) (h2 : i ≤ q.last) : q.compact i = (⟨i, q.term i, q.confAt i, q.l.drop (i - q.b).toNat⟩, 0) := by
  unfold LS.compact
  rw [if_pos (termE_in h1 h2)]
  have h3 := (rise_drop q.l q.b i h.r h1 (by unfold LS.last at h2; exact h2)).2
  rw [h3]
theorem compact_all {q : LS} (h : LOK q) {i : Int} (h1 : q.b ≤ i) (h2 : i ≤ q.last) :
    (q.compact i).2 = 0 ∧ (q.compact i).1.b = i ∧ (q.compact i).1.last = q.last ∧ (q.compact i).1.term q.last = q.term q.last ∧ (q.compact i).1.confAt q.last = q.confAt q.last ∧ ∀ m, (q.compact i).1.from (i + 1) m = q.from (i + 1) m := by
  have hl : q.last = q.b + q.l.length := rfl
  have hdl : (q.l.drop (i - q.b).toNat).length = q.l.length - (i - q.b).toNat := List.length_drop
  have hlast : (q.compact i).1.last = q.last := by
    rw [compact_is h h1 h2]; unfold LS.last; dsimp only; rw [hdl]; omega
  refine ⟨by rw [compact_is h h1 h2], by rw [compact_is h h1 h2], hlast, ?_, ?_, ?_⟩
  · by_cases he : q.last = i
    · have : (q.compact i).1.term q.last = q.term i := by
        rw [compact_is h h1 h2, he]; unfold LS.term; rw [if_pos rfl]
      rw [this, he]
    · have hh1 : q.has q.last = true := by unfold LS.has; simp; omega
      have hh2 : (q.compact i).1.has q.last = true := by
        unfold LS.has; rw [hlast, compact_is h h1 h2]; simp; omega
      have hne1 : ¬ q.last = q.b := by omega
      have hne2 : ¬ q.last = (q.compact i).1.b := by rw [compact_is h h1 h2]; exact he
      have hat : (q.compact i).1.at q.last = q.at q.last := by
        unfold LS.at
        rw [compact_is h h1 h2]
        dsimp only
        simp only [List.getD_eq_getElem?_getD, List.getElem?_drop]
        congr 2
        omega
      unfold LS.term
      rw [if_neg hne1, if_neg hne2, hh1, hh2, if_pos rfl, if_pos rfl]
      rw [hat]
  · rw [compact_is h h1 h2]
    unfold LS.confAt
    dsimp only
    have hsp : q.l = q.l.take (i - q.b).toNat ++ q.l.drop (i - q.b).toNat := (List.take_append_drop _ _).symm
    have hA : ∀ x ∈ q.l.take (i - q.b).toNat, x.1 ≤ q.last ∧ x.1 ≤ i := by
      intro x hx
      obtain ⟨j, hj, rfl⟩ := List.getElem_of_mem hx
      rw [List.length_take] at hj
      rw [List.getElem_take, rise_get q.l q.b j (by omega) h.r]
      omega
    have hB : ∀ x ∈ q.l.drop (i - q.b).toNat, ¬ x.1 ≤ i := by
      intro x hx
      obtain ⟨j, hj, rfl⟩ := List.getElem_of_mem hx
      rw [hdl] at hj
      rw [List.getElem_drop, rise_get q.l q.b _ (by omega) h.r]
      omega
    have e1 : confL i q.c q.l = confL i q.c (q.l.take (i - q.b).toNat) := by
      conv => lhs; rw [hsp]
      rw [confL_cat, confL_high i _ _ hB]
    have e2 : confL q.last q.c q.l = confL q.last (confL i q.c (q.l.take (i - q.b).toNat)) (q.l.drop (i - q.b).toNat) := by
      conv => lhs; rw [hsp]
      rw [confL_cat, confL_eq q.last i _ _ hA]
    rw [e1, e2]
  · intro m
    have hb2 : (q.compact i).1.b = i := by rw [compact_is h h1 h2]
    have hh : (q.compact i).1.has (i + 1) = q.has (i + 1) := by
      unfold LS.has
      rw [hlast, hb2, decide_eq_true (show i < i + 1 by omega), decide_eq_true (show q.b < i + 1 by omega)]
    unfold LS.from
    rw [hh, hb2]
    have e1 : (i + 1 - i - 1).toNat = 0 := by omega
    have e2 : (i + 1 - q.b - 1).toNat = (i - q.b).toNat := by omega
    rw [e1, e2, compact_is h h1 h2]
    rfl
theorem from_rise {q : LS} (h : LOK q) {i : Int} (h1 : q.b ≤ i) (m : Int) {j : Nat} (hj : j < (q.from (i + 1) m).length) : ((q.from (i + 1) m)[j]).1 = i + 1 + j := by
  have key : ∀ l, l = q.from (i + 1) m → ∀ hj : j < l.length, (l[j]).1 = i + 1 + j := by
    intro l hl hj
    unfold LS.from at hl
    split at hl
    · subst hl
      have e2 : (i + 1 - q.b - 1).toNat = (i - q.b).toNat := by omega
      simp only [List.length_take, List.length_drop] at hj
      rw [List.getElem_take, List.getElem_drop, rise_get q.l q.b _ (by omega) h.r]
      omega
    · subst hl; cases hj
  exact key _ rfl hj
theorem from_len {q : LS} (h : LOK q) (i m : Int) : (q.from i m).length ≤ 200 := by
  unfold LS.from
  split
  · rw [List.length_take, List.length_drop]; have := h.n; omega
  · exact Nat.zero_le _
/-- the program's log, by its plain one -/
structure GL (q : LS) (w : World) (p : Nat) (F : Nat → Prop) : Prop where
  ok : LOK q
  ex : ∃ ea en ec L, LG w p F q.b q.t q.c ea en ec L ∧ lsOf q.b q.t q.c L = q
  lt : ∀ k, F k → k < w.heap.size
theorem GL.mk' {w : World} {p : Nat} {F : Nat → Prop} {b t c : Int} {ea : Option Addr} {en ec : Nat} {L : List (En × List UInt8)} {q : LS} (h : LG w p F b t c ea en ec L) (hq : lsOf b t c L = q) (ho : LOK q) : GL q w p F := by
  subst hq
  exact ⟨ho, ⟨ea, en, ec, L, h, rfl⟩, h.lt⟩
theorem GL.mono {q : LS} {w w' : World} {p : Nat} {F : Nat → Prop} (h : GL q w p F) (hb : Below w.heap.size w w') : GL q w' p F := by
  obtain ⟨ea, en, ec, L, hL, hq⟩ := h.ex
  exact ⟨h.ok, ⟨ea, en, ec, L, hL.mono hb, hq⟩, fun k hk => Nat.lt_of_lt_of_le (h.lt k hk) hb.size⟩
theorem GL.ft {q : LS} {w w' : World} {p : Nat} {F G : Nat → Prop} (h : GL q w p F) (k : Ft G w w') (hd : ∀ x, F x → ¬ G x) : GL q w' p F := by
  obtain ⟨ea, en, ec, L, hL, hq⟩ := h.ex
  exact ⟨h.ok, ⟨ea, en, ec, L, hL.ft k hd, hq⟩, fun x hx => Nat.lt_of_lt_of_le (h.lt x hx) k.size⟩
theorem Fre.ft {w w' : World} {base : Nat} {a : Option Addr} {n c : Nat} {L : List (En × List UInt8)} {G : Nat → Prop} (h : Fre w base a n c L) (k : Ft G w w') (hd : ∀ x, G x → x < base) : Fre w' base a n c L :=
  ⟨h.es.ft k (fun x off e hg => absurd (h.ne x off e) (Nat.not_le.2 (hd x hg))), fun x hx => ⟨(h.fit x hx).ix, (h.fit x hx).tm, (h.fit x hx).kd, (h.fit x hx).rd.ft k (fun hn b off e hg => absurd (h.fa x hx hn b off e) (Nat.not_le.2 (hd b hg)))⟩, h.ne, h.fa⟩
section
variable {q : LS} {w : World} {p : Nat} {F : Nat → Prop}
theorem qbase (h : GL q w p F) : Calls Tryz.prog 23 #[.pointer (some ⟨p, 0, none⟩)] w fun x w' => x = .returned (.int .i64 q.b) ∧ Below w.heap.size w w' := by
  obtain ⟨ea, en, ec, L, hL, hq⟩ := h.ex
  refine (gbase p F q.b q.t q.c ea en ec L w hL (by rw [hq]; exact h.ok)).mono ?_
  rintro x w' ⟨rfl, rfl⟩; exact ⟨rfl, Below.refl _ _⟩
theorem qlast (h : GL q w p F) : Calls Tryz.prog 24 #[.pointer (some ⟨p, 0, none⟩)] w fun x w' => x = .returned (.int .i64 q.last) ∧ Below w.heap.size w w' := by
  obtain ⟨ea, en, ec, L, hL, hq⟩ := h.ex
  have := glast p F q.b q.t q.c ea en ec L w hL (by rw [hq]; exact h.ok)
  rwa [hq] at this
theorem qlastT (h : GL q w p F) : Calls Tryz.prog 25 #[.pointer (some ⟨p, 0, none⟩)] w fun x w' => x = .returned (.int .i64 (q.term q.last)) ∧ Below w.heap.size w w' := by
  obtain ⟨ea, en, ec, L, hL, hq⟩ := h.ex
  have := glastT p F q.b q.t q.c ea en ec L w hL (by rw [hq]; exact h.ok)
  rwa [hq] at this
theorem qterm (h : GL q w p F) (i : Int) : Calls Tryz.prog 52 #[.pointer (some ⟨p, 0, none⟩), .int .i64 i] w fun x w' => x = .returned (.tuple #[.int .i64 (q.term i), .int .i64 (q.termE i)]) ∧ Below w.heap.size w w' := by
  obtain ⟨ea, en, ec, L, hL, hq⟩ := h.ex
  have := gterm p F q.b q.t q.c ea en ec L i w hL (by rw [hq]; exact h.ok)
  rwa [hq] at this
theorem qconf (h : GL q w p F) : Calls Tryz.prog 26 #[.pointer (some ⟨p, 0, none⟩)] w fun x w' => x = .returned (.int .i64 (q.confAt q.last)) ∧ Below w.heap.size w w' := by
  obtain ⟨ea, en, ec, L, hL, hq⟩ := h.ex
  have := gconf p F q.b q.t q.c ea en ec L w hL (by rw [hq]; exact h.ok)
  rwa [hq] at this
theorem qconfAt (h : GL q w p F) (i : Int) : Calls Tryz.prog 53 #[.pointer (some ⟨p, 0, none⟩), .int .i64 i] w fun x w' => x = .returned (.int .i64 (q.confAt i)) ∧ Below w.heap.size w w' := by
  obtain ⟨ea, en, ec, L, hL, hq⟩ := h.ex
  have := gconfAt p F q.b q.t q.c ea en ec L i w hL (by rw [hq]; exact h.ok)
  rwa [hq] at this
theorem qfrom (h : GL q w p F) (i m : Int) (wm : (Lit.int .i64 m).wf = true) : Calls Tryz.prog 48 #[.pointer (some ⟨p, 0, none⟩), .int .i64 i, .int .i64 m] w fun x w' => ∃ a n cp R, x = .returned (.slice a n cp) ∧ Fre w' w.heap.size a n cp R ∧ R.map pe = q.from i m ∧ Below w.heap.size w w' := by
  obtain ⟨ea, en, ec, L, hL, hq⟩ := h.ex
  have := gfrom p F q.b q.t q.c ea en ec L i m w hL (by rw [hq]; exact h.ok) wm
  rwa [hq] at this
theorem qcompact (h : GL q w p F) (i : Int) (hl : q.last ≤ 4294967296) : Calls Tryz.prog 45 #[.pointer (some ⟨p, 0, none⟩), .int .i64 i] w fun x w' => x = .returned (.int .i64 (q.compact i).2) ∧ GL (q.compact i).1 w' p F ∧ Ft F w w' := by
  obtain ⟨ea, en, ec, L, hL, hq⟩ := h.ex
  refine (gcompact p F q.b q.t q.c ea en ec L i w hL (by rw [hq]; exact h.ok)).mono ?_
  rintro x w' ⟨b', t', c', en', L', rfl, hL', heq, -, hft⟩
  rw [hq] at heq
  refine ⟨by rw [hq], GL.mk' hL' heq ?_, hft⟩
  rcases h.ok.compact (i := i) hl with h1 | h1
  · exact h1.1
  · rw [h1]; exact h.ok
theorem qcut (h : GL q w p F) (i : Int) : Calls Tryz.prog 154 #[.pointer (some ⟨p, 0, none⟩), .int .i64 i] w fun x w' => x = .returned (.int .i64 (q.cut i).2) ∧ GL (q.cut i).1 w' p F ∧ Ft F w w' := by
  obtain ⟨ea, en, ec, L, hL, hq⟩ := h.ex
  refine (gcut p F q.b q.t q.c ea en ec L i w hL (by rw [hq]; exact h.ok)).mono ?_
  rintro x w' ⟨en', L', rfl, hL', heq, hft⟩
  rw [hq] at heq
  exact ⟨by rw [hq], GL.mk' hL' heq h.ok.cut, hft⟩
theorem qappend (h : GL q w p F) (e : En) (l : List UInt8) (he : EnF w e l) (hn : q.l.length + 1 ≤ 200) : Calls Tryz.prog 50 #[.pointer (some ⟨p, 0, none⟩), .agg e.cells.toArray] w fun x w' => x = .returned (.int .i64 (q.app (pe (e, l))).2) ∧ GL (q.app (pe (e, l))).1 w' p (FG F w w') ∧ Ft F w w' := by
  obtain ⟨ea, en, ec, L, hL, hq⟩ := h.ex
  refine (gappend p F q.b q.t q.c ea en ec L e l w hL (by rw [hq]; exact h.ok) he).mono ?_
  rintro x w' ⟨ea', en', ec', L', rfl, hL', heq, hft⟩
  rw [hq] at heq
  exact ⟨by rw [hq], GL.mk' hL' heq (h.ok.app hn), hft⟩
theorem qreset (h : GL q w p F) (b t c : Int) (hb : 0 ≤ b ∧ b ≤ 4294967296) : Calls Tryz.prog 49 #[.pointer (some ⟨p, 0, none⟩), .int .i64 b, .int .i64 t, .int .i64 c] w fun x w' => (∃ v, x = .returned v) ∧ GL ⟨b, t, c, []⟩ w' p F ∧ Ft F w w' := by
  obtain ⟨ea, en, ec, L, hL, hq⟩ := h.ex
  refine (greset p F q.b q.t q.c ea en ec L b t c w hL (by rw [hq]; exact h.ok)).mono ?_
  rintro x w' ⟨hv, hL', hu⟩
  exact ⟨hv, GL.mk' hL' rfl ⟨trivial, hb, Nat.zero_le _, by simp⟩, Ft.of_upd hu hL.fp⟩
end
theorem qnew (b t c : Int) (a : Option Addr) (n cp : Nat) (L0 : List (En × List UInt8)) (w : World) (h : Ents w a n cp L0) (hb : 0 ≤ b ∧ b ≤ 4294967296) (hn : n ≤ 100) :
    Calls Tryz.prog 20 #[.int .i64 b, .int .i64 t, .int .i64 c, .slice a n cp] w fun x w' => ∃ p F, x = .returned (.pointer (some ⟨p, 0, none⟩)) ∧ GL ((⟨b, t, c, []⟩ : LS).apps (L0.map pe)) w' p F ∧ ((⟨b, t, c, []⟩ : LS).apps (L0.map pe)).l.length ≤ n ∧ ((⟨b, t, c, []⟩ : LS).apps (L0.map pe)).b = b ∧ (∀ k, F k → w.heap.size ≤ k) ∧ Below w.heap.size w w' := by
  refine (gnew b t c a n cp L0 w h hb hn).mono ?_
  rintro x w' ⟨p, F, ea, en, ec, L, rfl, hL, heq, ho, hle, hF, hbw⟩
  have heq2 : lsOf b t c L = (⟨b, t, c, []⟩ : LS).apps (L0.map pe) := heq
  rw [← heq2]
  exact ⟨p, F, rfl, GL.mk' hL rfl ho, by show (L.map pe).length ≤ n; rw [List.length_map]; exact hle, rfl, hF, hbw⟩
end Go.Proofs.YtjkkopbhdeljmaaGreat.W

namespace Go.Proofs.YtjkkopbhdeljmaaGreat.W
open Go Go.ChangeShapes Go.WideShapes Go.ChangeAt Go.RowKit


/-- a base that may be -/
def atV (n : Int) : Int := (n % 18446744073709551616) % 1073741824
theorem atV_le (n : Int) : 0 ≤ atV n ∧ atV n < 1073741824 := by unfold atV; omega
end Go.Proofs.YtjkkopbhdeljmaaGreat.W
