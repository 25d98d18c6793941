/- LAYER 12 (peers): the program's Match. -/
import Derived.Test.YtjkkopbhdeljmaaGreatPeJ
import Derived.Test.YtjkkopbhdeljmaaGreatPeS
import Derived.Test.YtjkkopbhdeljmaaGreatPeU
import Derived.Test.YtjkkopbhdeljmaaGreatRgt
set_option linter.unusedSimpArgs false
set_option linter.unusedVariables false
namespace Go.Proofs.YtjkkopbhdeljmaaGreat.W
open Go Go.ChangeShapes Go.WideShapes Go.ChangeAt Go.RowKit Go.Shelf
open Go.Proofs.YtjkkopbhdeljmaaGreat.B (hasV elV bitsV mem mem_and mem_ref cntM cnt T bits_127 cntM_le lsN lsN_len lsN_lt mlN nGe nGt Best)
attribute [local go_sem] Oper.semAt_some

/-- a list of nodes' numbers -/
def pv (ms : List Int) (L : List Int) : List Int := L.map fun x => ms.getD x.toNat 0
theorem pv_snoc (ms L : List Int) (x : Nat) : pv ms (L ++ [(x : Int)]) = pv ms L ++ [ms.getD x 0] := by unfold pv; rw [List.map_append]; rfl
theorem pv_ml (c : Int) (ms : List Int) : pv ms (mlI c) = vals c ms := by
  unfold pv vals mlI LI mlN; rw [List.map_map]; rfl
theorem pv_len (ms L : List Int) : (pv ms L).length = L.length := by simp [pv]
/-- the block of a list of ints that is not empty -/
theorem OwI.row {w : World} {base : Nat} {v : Value} {L : List Int} (h : OwI w base v L) (h0 : L ≠ []) : ∃ g cap R, v = .slice (some ⟨g, 0, none⟩) L.length cap ∧ base ≤ g ∧ g < w.heap.size ∧ Row w g 3 (CI L R) := by
  have hlt := World.ownsRow.lt h
  obtain ⟨h1, h2⟩ := h
  rcases h2 with ⟨rfl, hl⟩ | ⟨g, cap, cur, rfl, hg, hh, hn, hm, hsz, ht⟩
  · exact absurd (List.eq_nil_of_length_eq_zero hl) h0
  · refine ⟨g, cap, cur.toList.drop L.length, rfl, hg, (hlt g rfl).2, ?_⟩
    unfold Row CI
    rw [hh]
    have : L.map (Value.int .i64) ++ cur.toList.drop L.length = cur.toList := by
      rw [← ht, Nat.mul_one]; exact List.take_append_drop _ _
    rw [this]

/-- what the loop's cells hold: the array, the list of numbers -/
structure ScM (w0 : World) (mB hB base : Nat) (ms : List Int) (L : List Int) (W : World) : Prop where
  rh : ∃ v, Row W hB 94 [v] ∧ OwI W base v (pv ms L)
  ra : Row W mB 53 (ms.map (Value.int .i64))
  bel : Below w0.heap.size w0 W
theorem ScM.up {w0 W W' : World} {mB hB base : Nat} {ms L : List Int} (h : ScM w0 mB hB base ms L W) (hu : UpI base W W') (hh : W'.heap[hB]? = W.heap[hB]?) (hm : W'.heap[mB]? = W.heap[mB]?) (hb : Below w0.heap.size W W') : ScM w0 mB hB base ms L W' := by
  obtain ⟨⟨v, h1, h2⟩, h4, h5⟩ := h
  exact ⟨⟨v, hh.trans h1, h2.up hu⟩, hm.trans h4, h5.trans hb⟩

set_option maxRecDepth 100000 in
set_option maxHeartbeats 4000000 in
theorem pmatch_in (c : Int) (ms : List Int) (hms : ms.length = 7) (w : World) :
    CallsIn Fence.wide 9 Tryz.prog 80 #[.int .i64 c, .agg (ms.map (Value.int .i64)).toArray] w fun y w' => ∃ b, y = .returned (.int .i64 b) ∧ Best (vals c ms) b ∧ Below w.heap.size w w' := by
  have HF := Lib.hid (fun v => pmembers c v)
  have HM := Lib.hid hms
  have hmx : Tryz.prog.follows .mixedOrders = true := by kernel_rfl
  obtain ⟨MS, hMS⟩ : ∃ MS, ms.map (Value.int .i64) = MS := ⟨_, rfl⟩
  rw [hMS]
  have HMS := Lib.hid hMS
  clear hms hMS
  refine callsIn_of_wp_marks Tryz.func80 rfl trivial ?_ rfl
  simp only [Tryz.ntmps80, List.size_toArray, List.length_cons, List.length_nil, Nat.reduceAdd, Nat.reduceSub, Array.replicate_succ, Array.replicate_zero, List.push_toArray, List.append_toArray, List.nil_append, List.cons_append]
  gi_wp2_with (refine ⟨trivial, ?_⟩; gi_at_call 116; refine (callsIn_wide.2 (HF.out _)).mono ?_; rintro e w1 ⟨rfl, hr1, hb1, hz1⟩; have R1 := Lib.hid hr1; have B1 := Lib.hid hb1; have Z1 := Lib.hid hz1; clear hr1 hb1 hz1)
  have hmsl : MS.length = 7 := by rw [← HMS.out, List.length_map]; exact HM.out
  have ra0 : Row (w.alloc (.cells MS.toArray 53)) w.heap.size 53 MS := Row.new _ _ _
  have ra : Row ((w.alloc (.cells MS.toArray 53)).alloc (.cells #[.slice none 0 0] 94)) w.heap.size 53 MS := ra0.alloc _
  have rb : Row ((w.alloc (.cells MS.toArray 53)).alloc (.cells #[.slice none 0 0] 94)) (w.heap.size + 1) 94 [.slice none 0 0] := by
    have := Row.new (w.alloc (.cells MS.toArray 53)) 94 [.slice none 0 0]; rwa [World.size_alloc] at this
  have hb0 : Below w.heap.size w ((w.alloc (.cells MS.toArray 53)).alloc (.cells #[.slice none 0 0] 94)) := ((Below.refl _ w).alloc (Nat.le_refl _) _).alloc (by simp) _
  have hz0 : ((w.alloc (.cells MS.toArray 53)).alloc (.cells #[.slice none 0 0] 94)).heap.size = w.heap.size + 2 := by simp
  obtain ⟨W0, hW0⟩ : ∃ W0, (w.alloc (.cells MS.toArray 53)).alloc (.cells #[.slice none 0 0] 94) = W0 := ⟨_, rfl⟩
  rw [hW0] at ra rb hb0 hz0 R1 B1 Z1
  rw [hz0] at R1 Z1
  have RA := Lib.hid (ra.below B1.out ra.lt)
  have RB := Lib.hid (rb.below B1.out rb.lt)
  have BB := Lib.hid (hb0.trans (B1.out.mono (by omega)))
  have hz1 := Z1.out
  have HL7 := Lib.hid hmsl
  clear ra0 ra rb hb0 hz0 hW0 B1 Z1 hmsl
  refine wpIn_rangeFunc_cell (P := Tryz.prog) (k := 8) (gf := 161) (lb := #[.pointer (some ⟨w.heap.size + 1 + 1, 0, none⟩)]) (b1 := w.heap.size + 2) (n0 := w.heap.size) rfl (enters_of Tryz.func161 (by kernel_rfl) rfl) (by omega) (by omega) (encs := encI) (Nw := NwI) (next := nextI) (s0 := []) (S := fun s => s = mlI c) (fun _ => rfl)
    (piter c (w.heap.size + 2) w.heap.size w1 (by omega) R1.out)
    (ScM w w.heap.size (w.heap.size + 1) (w.heap.size + 5) ms) ?h1 ?h2 ?h3 ?hn ?h0
    (fun x => { tmps := #[.int .i64 c, .agg MS.toArray, undef, .pointer (some ⟨w.heap.size, 0, none⟩), .int .i64 0, .pointer (some ⟨w.heap.size + 1, 0, none⟩), .int .i64 (x : Int), .int .i64 c, .func (.func 161) #[] #[.pointer (some ⟨w.heap.size + 1 + 1, 0, none⟩)], .int .i64 (x : Int), undef, undef, undef, undef, undef, undef, undef, undef, undef, undef, undef, undef, undef, undef, undef, undef, undef, undef], defers := [] }) ?assign ?body ?done
  case h1 =>
    intro s A B h hb
    obtain ⟨v, q1, q2⟩ := h.rh
    exact h.up (UpI.of_below hb) (hb.block _ q1.lt) (hb.block _ h.ra.lt) (hb.mono h.bel.size)
  case h2 =>
    intro s A v h
    exact h.up (UpI.setCell _ _ _ _ _ (by omega)) (heap_setCell_other A ⟨w.heap.size + 2, 0, none⟩ _ v (by simp)) (heap_setCell_other A ⟨w.heap.size + 2, 0, none⟩ _ v (by simp)) ((Upd.setCell A (w.heap.size + 2) 0 v).below (by omega))
  case h3 =>
    intro s A l o h hl1 hl2
    exact h.up (UpI.putObj _ _ _ _ (by omega)) (World.putObj_heap_other (by omega)) (World.putObj_heap_other (by omega)) (below_putObj (by omega))
  case hn =>
    intro s x A0 A l o h hl hs
    exact h
  case h0 => exact ⟨⟨_, RB.out, OwI.nil _ _⟩, by rw [HMS.out]; exact RA.out, BB.out⟩
  case assign =>
    intro l x W K hK
    simp only [encI]
    gi_wp2
    exact hK
  case body =>
    rintro l L x A0 W hA0 hW hsz hle hlow hnw
    obtain ⟨⟨v, q1, q2⟩, q3, q4⟩ := hW
    have hx7 : x < 7 := hnw.1
    have hL7 : L.length ≤ 7 := hnw.2
    obtain ⟨y, hy⟩ : ∃ y, ms.getD x 0 = y := ⟨_, rfl⟩
    have CM : Hid (W.cell? ⟨w.heap.size, x, none⟩ = some (.int .i64 y)) := Lib.hid (by rw [← hy]; exact q3.cell 0 x (by rw [HM.out]; exact hx7))
    have C1 : Hid (W.cell? ⟨w.heap.size + 1, 0, none⟩ = some v) := Lib.hid q1.k0
    have Q1 := Lib.hid q1
    have Q2 := Lib.hid q2
    have Q3 := Lib.hid q3
    have Q4 := Lib.hid q4
    have HW5 := Lib.hid (show w.heap.size + 5 ≤ W.heap.size by omega)
    have HPS := Lib.hid (show pv ms (L ++ [(x : Int)]) = pv ms L ++ [y] by rw [pv_snoc, hy])
    have hx7i : (x : Int) < 7 := by omega
    clear q1 q2 q3 q4 hA0 hlow hle hsz hnw hy
    gi_wp2
    have D0 : Hid (Below (w.heap.size + 5) W W.drew) := Lib.hid ((Below.refl _ _).drew)
    refine region_t_in (fun v => Below (w.heap.size + 5) W v) 6 hmx (by kernel_rfl) (by kernel_rfl) (by kernel_rfl) D0.out ?_
    have O0 : Hid (OwI W.drew (w.heap.size + 5) v (pv ms L)) := Lib.hid (Q2.out.kept (Below.refl _ W).drew)
    have hZ0 : Hid (W.drew.heap.size = W.heap.size) := Lib.hid rfl
    obtain ⟨wd, hwd⟩ : ∃ wd, W.drew = wd := ⟨_, rfl⟩
    rw [hwd] at D0 O0 hZ0 ⊢
    clear hwd
    (refine t_read 0 rfl (by kernel_rfl) (by kernel_rfl) (by kernel_rfl) (t_free rfl) ?_ ?_ ?_; rotate_left; (focus (intro v hv; have y0 := (hv.cell (p := ⟨w.heap.size + 1, 0, none⟩) (by show w.heap.size + 1 < _; omega)).trans C1.out; have ym := (hv.cell (p := ⟨w.heap.size, x, none⟩) (by show w.heap.size < _; omega)).trans CM.out; go_simp; rfl)); go_simp)
    (refine t_read 1 rfl (by kernel_rfl) (by kernel_rfl) (by kernel_rfl) (t_free rfl) ?_ ?_ ?_; rotate_left; (focus (intro v hv; go_simp; rfl)); go_simp)
    (refine t_read 2 rfl (by kernel_rfl) (by kernel_rfl) (by kernel_rfl) (t_free rfl) ?_ ?_ ?_; rotate_left; (focus (intro v hv; go_simp; rfl)); go_simp)
    (refine t_read 3 rfl (by kernel_rfl) (by kernel_rfl) (by kernel_rfl) (t_free rfl) ?_ ?_ ?_; rotate_left; (focus (intro v hv; have y0 := (hv.cell (p := ⟨w.heap.size + 1, 0, none⟩) (by show w.heap.size + 1 < _; omega)).trans C1.out; have ym := (hv.cell (p := ⟨w.heap.size, x, none⟩) (by show w.heap.size < _; omega)).trans CM.out; go_simp; rfl)); go_simp)
    (refine t_list 4 rfl (by kernel_rfl) rfl ?_; intro K hK)
    go_wp2_with fail
    have D1 : Hid (Below (w.heap.size + 5) W (wd.alloc (.cells #[.int .i64 y] 3))) := Lib.hid (D0.out.alloc (by have := HW5.out; have := hZ0.out; omega) _)
    have O1 : Hid (OwI (wd.alloc (.cells #[.int .i64 y] 3)) (w.heap.size + 5) v (pv ms L)) := Lib.hid (O0.out.kept ((Below.refl _ wd).alloc (Nat.le_refl _) _))
    have E1 : Hid ((wd.alloc (.cells #[.int .i64 y] 3)).cell? ⟨wd.heap.size, 0, none⟩ = some (.int .i64 y)) := Lib.hid (cell_of_row _ wd.heap.size 0 _ 3 _ (heap_alloc_new wd _))
    have Z1 : Hid (w.heap.size + 5 ≤ (wd.alloc (.cells #[.int .i64 y] 3)).heap.size) := Lib.hid (by have := HW5.out; have := hZ0.out; simp; omega)
    refine hK _ _ D1.out ?_
    obtain ⟨we, hwe⟩ : ∃ we, wd.alloc (.cells #[.int .i64 y] 3) = we := ⟨_, rfl⟩
    rw [hwe] at D1 O1 E1 Z1 ⊢
    clear hwe
    go_simp
    (refine t_list 5 rfl (by kernel_rfl) rfl ?_; intro K hK)
    refine append_int rfl _ _ rfl (w.heap.size + 5) v (pv ms L) (by go_simp) O1.out wd.heap.size 1 (by go_simp) y E1.out (by rw [pv_len]; omega) Z1.out ?_
    intro v' w5 ho5 hb5
    rw [← HPS.out] at ho5
    have O5 := Lib.hid ho5
    have D5 := Lib.hid (D1.out.trans hb5)
    obtain ⟨va, vc, hv', -⟩ := ho5.at
    obtain ⟨nl, hnl⟩ : ∃ nl, (pv ms (L ++ [(x : Int)])).length = nl := ⟨_, rfl⟩
    rw [hnl] at hv'
    subst hv'
    clear ho5 hb5 hnl
    refine hK _ _ D5.out ?_
    go_simp
    (refine t_last 6 rfl (by kernel_rfl) rfl (by kernel_rfl) (by kernel_rfl) ?_; intro K hK)
    have G1 := Lib.hid (show Row w5 (w.heap.size + 1) 94 [v] from (D5.out.block _ (by omega)).trans Q1.out)
    have G3 := Lib.hid (show Row w5 w.heap.size 53 (ms.map (Value.int .i64)) from (D5.out.block _ (by omega)).trans Q3.out)
    refine store_cell rfl _ _ _ rfl (w.heap.size + 1) 0 (.slice va nl vc) (by go_simp) (by go_simp) rfl rfl 94 _ G1.out (by kernel_rfl) (by simp) ?_
    intro w6 hr6 hu6
    refine hK _ _ ?_
    go_simp
    have DB : Below w.heap.size W w6 := (D5.out.mono (by omega)).trans (hu6.below (by omega))
    have hkeep : ∀ j, w.heap.size + 2 ≤ j → j < w.heap.size + 5 → w6.heap[j]? = W.heap[j]? := fun j h1 h2 => (hu6.block j (by omega)).trans (D5.out.block j h2)
    have hU6 : UpI (w.heap.size + 5) w5 w6 := ⟨Nat.le_of_eq hu6.size.symm, fun k hk _ => hu6.block k (by omega)⟩
    refine ⟨rfl, ⟨⟨.slice va nl vc, hr6, ?_⟩, ?_, Q4.out.trans DB⟩, ⟨hkeep _ (Nat.le_refl _) (by omega), DB⟩, fun j o h1 h2 ho _ => (hkeep j (by omega) (by omega)).trans ho⟩
    · exact O5.out.up hU6
    · exact (hu6.block _ (by omega)).trans G3.out
  case done =>
    rintro s W rfl hS hK
    obtain ⟨⟨v, q1, q2⟩, q3, q4⟩ := hS
    rw [pv_ml] at q2
    have hvl := vals_len c ms
    have hc7 := cntM_le c
    obtain ⟨V, hV⟩ : ∃ V, vals c ms = V := ⟨_, rfl⟩
    rw [hV] at q2 hvl
    have HVV := Lib.hid hV
    obtain ⟨n, hn⟩ : ∃ n, cntM c = n := ⟨_, rfl⟩
    rw [hn] at hvl hc7
    have c1 := q1.k0
    have HK := Lib.hid hK
    have QB := Lib.hid q4
    have HVL := Lib.hid hvl
    clear hV hn hvl
    by_cases h0 : V = []
    · subst h0
      obtain ⟨va, vc, hv, -⟩ := q2.at
      subst hv
      have HB : Hid (B.Best [] 0) := Lib.hid (.inl ⟨rfl, rfl⟩)
      clear q1 q2 q3 q4
      gi_wp2
      refine ⟨by simp, .inl ⟨_, _, rfl, run_takeDeferred HK.out, ?_⟩⟩
      refine ⟨_, results_tmp rfl _ _ _, 0, rfl, by rw [HVV.out]; exact HB.out, ?_⟩
      exact QB.out.trans (below_putObj (by omega))
    · obtain ⟨g, cap, R, hv, hg, hgl, hrow⟩ := q2.row h0
      subst hv
      have hV0 : 0 < V.length := List.length_pos_iff.2 h0
      rw [HVL.out] at hV0 c1 q1
      have HRW := Lib.hid hrow
      have Q1 := Lib.hid q1
      have HG := Lib.hid (show w.heap.size + 5 ≤ g from hg)
      have HV0 := Lib.hid h0
      clear q1 q2 q3 q4 hrow h0 hg
      gi_wp2_with (refine ⟨trivial, ?_⟩; gi_at_call 117; refine (callsIn_wide.2 (isorts g cap n V R W HVL.out hc7 HRW.out)).mono ?_; rintro e w5 ⟨rfl, hg5, S, hsp, hss, hr5⟩; have G5 := Lib.hid hg5; have SP := Lib.hid hsp; have SS := Lib.hid hss; have R5 := Lib.hid hr5; have K5 := Lib.hid (show w5.heap[w1.heap.size]? = some (.deferred (some [])) from (hg5.block _ (by have := (Array.getElem?_eq_some_iff.1 HK.out).1; exact this) (by have := HG.out; omega)).trans HK.out); have c5 : w5.cell? ⟨w.heap.size + 1, 0, none⟩ = some (.slice (some ⟨g, 0, none⟩) n cap) := (Q1.out.gw hg5 (by have := HG.out; omega)).k0; obtain ⟨b, hbv⟩ : ∃ b, S.getD ((n - 1) / 2) 0 = b := ⟨_, rfl⟩; have cx : w5.cell? ⟨g, (n - 1) / 2, none⟩ = some (.int .i64 b) := (by rw [← hbv, hr5.cellV, CI_at S R _ (by rw [hsp.length_eq, HVL.out]; omega)]); have HBV := Lib.hid hbv; clear hbv hg5 hsp hss hr5)
      refine ⟨by simp, .inl ⟨_, _, rfl, run_takeDeferred (show w5.heap[w.heap.size + 2 + 1]? = some (.deferred (some [])) from by have := K5.out; rw [hz1] at this; exact this), ?_⟩⟩
      refine ⟨_, results_tmp rfl _ _ _, b, rfl, ?_, ?_⟩
      · have hsl : S.length = n := by rw [SP.out.length_eq, HVL.out]
        have hb := B.sorted_best S SS.out (fun e => HV0.out (by have := SP.out; rw [e] at this; exact this.symm.eq_nil))
        rw [hsl, HBV.out] at hb
        rw [HVV.out]
        exact hb.perm SP.out
      · exact (QB.out.trans (G5.out.below (by have := HG.out; omega) (by have := QB.out.size; omega))).trans (below_putObj (by omega))
theorem pmatch (c : Int) (ms : List Int) (hms : ms.length = 7) (w : World) :
    Calls Tryz.prog 80 #[.int .i64 c, .agg (ms.map (Value.int .i64)).toArray] w fun y w' => ∃ b, y = .returned (.int .i64 b) ∧ Best (vals c ms) b ∧ Below w.heap.size w w' :=
  callsIn_wide.1 (pmatch_in c ms hms w)
end Go.Proofs.YtjkkopbhdeljmaaGreat.W
