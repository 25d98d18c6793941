/- LAYER 12 (peers): the program's List. -/
import Derived.Test.YtjkkopbhdeljmaaGreatPeI
set_option linter.unusedSimpArgs false
set_option linter.unusedVariables false
namespace Go.Proofs.YtjkkopbhdeljmaaGreat.W
open Go Go.ChangeShapes Go.WideShapes Go.ChangeAt Go.RowKit Go.Shelf
open Go.Proofs.YtjkkopbhdeljmaaGreat.B (hasV elV bitsV mem mem_and mem_ref cntM cnt T bits_127 cntM_le lsN lsN_len lsN_lt mlN)
attribute [local go_sem] Oper.semAt_some

section
variable {P : Program}
theorem append_atI {F : Fence} {n0 : Nat} {w : World} {ops : Array Oper} {rest : List Oper} {o : Oper} {a : Act} {Q : Exit → Act → World → Prop} (hgd : o.guard = none) (s x : Operand) (t e : TypeId)
    (ho : o.op = .call { callee := .builtin .append, args := #[s, x], argTypes := #[t, t] })
    (base : Nat) (i : TypeInfo) (z : Value) (size bytes : Nat) (ht : P.underlying t = some (.slice e)) (hi : P.info? e = some i) (hz : i.zero = some z)
    (hsize : i.size = size) (hby : i.bytes = bytes) (hzs : z.cells.size = size) (hsz : 0 < size) (v : Value) (n : Nat) (xs : List Value) (hs : a.eval s = v) (hown : w.ownsRow base e size v n xs)
    (ad : Addr) (m c : Nat) (news : List Value) (hx : a.eval x = .slice (some ad) m c) (hl : news.length = m * size) (hnews : ∀ j u, news[j]? = some u → w.cell? (ad.add j) = some u) (h1 : ∀ u ∈ news, u.oneCell' = true)
    (h63 : n + m ≤ maxLen) (hbytes : (n + m) * bytes ≤ 140737488355328) (hbase : base ≤ w.heap.size)
    (h : ∀ v' w', w'.ownsRow base e size v' (n + m) (xs ++ news) → w.grownBy w' v.ownBlock → (v'.ownBlock = v.ownBlock ∨ v'.ownBlock = some w.heap.size) → wpListIn F n0 P ops Q rest (a.put o.dst v') w') : wpListIn F n0 P ops Q (o :: rest) a w := by
  obtain ⟨v', w', hr, h2, h3, h4⟩ := run_append_at (P := P) w base t o.type e i z size bytes ht hi hz hsize hby hzs hsz v n xs hown ad m c news hl hnews h1 h63 hbytes hbase
  refine wpListIn_plain hgd fun K hK => ?_
  unfold Oper.wpIn
  refine ⟨by simp [Oper.about, ho, resolve, Target.leads, Sem.run_pure], ?_⟩
  rw [Oper.semAt_plain F _ _ (by rw [ho]; intro c hc'; cases hc')]
  simp [execOp, ho, resolve, invoke, builtin, hs, hx, hr, Result.andThen]
  exact hK _ _ (h v' w' h2 h3 h4)
end
theorem append_int_in {F : Fence} {n0 : Nat} {w : World} {ops : Array Oper} {rest : List Oper} {o : Oper} {a : Act} {Q : Exit → Act → World → Prop} (hgd : o.guard = none) (s x : Operand)
    (ho : o.op = .call { callee := .builtin .append, args := #[s, x], argTypes := #[94, 94] })
    (base : Nat) (v : Value) (L : List Int) (hs : a.eval s = v) (hown : OwI w base v L) (g c : Nat) (hx : a.eval x = .slice (some ⟨g, 0, none⟩) 1 c)
    (n : Int) (hcell : w.cell? ⟨g, 0, none⟩ = some (.int .i64 n)) (hmax : L.length ≤ 1000000) (hbase : base ≤ w.heap.size)
    (h : ∀ va vc w', OwI w' base (.slice va (L.length + 1) vc) (L ++ [n]) → Below base w w' → wpListIn F n0 Tryz.prog ops Q rest (a.put o.dst (.slice va (L.length + 1) vc)) w') : wpListIn F n0 Tryz.prog ops Q (o :: rest) a w := by
  obtain ⟨i0, hi, hz0, hz1, hz2⟩ := info_parts infoInt
  have hlt := World.ownsRow.lt hown
  refine append_atI hgd s x 94 3 ho base i0 _ 1 8 Tryz.underlying94 hi hz0 hz1 hz2 rfl (by decide) v L.length (L.map (Value.int .i64)) hs hown ⟨g, 0, none⟩ 1 c [.int .i64 n] hx rfl ?_ ?_ (by unfold maxLen; omega) (by omega) hbase ?_
  · intro j u hj
    obtain ⟨rfl, rfl⟩ : j = 0 ∧ .int .i64 n = u := by
      rcases j with _ | j
      · exact ⟨rfl, by simpa using hj⟩
      · simp at hj
    rw [Go.WideShapes.add_plain]; exact hcell
  · intro u hu
    rw [List.mem_singleton.1 hu]; rfl
  · intro v' w' hown' hg hblk
    have ho := OwI.append (w := w) hown'
    obtain ⟨va, vc, hv, -⟩ := ho.at
    rw [List.length_append] at hv
    subst hv
    exact h _ _ w' ho ((Below.refl _ _).grown hg hbase (fun k hk => (hlt k hk).1))

/-- what the loop's own cell holds: the list, its memory from block base on -/
structure ScI (w0 : World) (hB base : Nat) (L : List Int) (W : World) : Prop where
  rh : ∃ v, Row W hB 94 [v] ∧ OwI W base v L
  bel : Below w0.heap.size w0 W
theorem ScI.up {w0 W W' : World} {hB base : Nat} {L : List Int} (h : ScI w0 hB base L W) (hu : UpI base W W') (hh : W'.heap[hB]? = W.heap[hB]?) (hb : Below w0.heap.size W W') : ScI w0 hB base L W' := by
  obtain ⟨⟨v, h1, h2⟩, h5⟩ := h
  exact ⟨⟨v, hh.trans h1, h2.up hu⟩, h5.trans hb⟩
theorem OwI.ups {w w' : World} {base : Nat} {v : Value} {L : List Int} (h : OwI w base v L) (k : UpI base w w') : OwI w' base v L := h.up k

set_option maxRecDepth 100000 in
set_option maxHeartbeats 4000000 in
theorem plist_in (c : Int) (w : World) :
    CallsIn Fence.wide 9 Tryz.prog 91 #[.int .i64 c] w fun y w' => ∃ v, y = .returned v ∧ OwI w' w.heap.size v (mlI c) ∧ Below w.heap.size w w' := by
  have HF := Lib.hid (fun v => pmembers c v)
  refine callsIn_of_wp_marks Tryz.func91 rfl trivial ?_ rfl
  simp only [Tryz.ntmps91, List.size_toArray, List.length_cons, List.length_nil, Nat.reduceAdd, Nat.reduceSub, Array.replicate_succ, Array.replicate_zero, List.push_toArray, List.append_toArray, List.nil_append, List.cons_append]
  gi_wp2_with (refine ⟨trivial, ?_⟩; gi_at_call 116; refine (callsIn_wide.2 (HF.out _)).mono ?_; rintro e w1 ⟨rfl, hr1, hb1, hz1⟩; have R1 := Lib.hid hr1; have B1 := Lib.hid hb1; have Z1 := Lib.hid hz1; clear hr1 hb1 hz1)
  have ra : Row (w.alloc (.cells #[.slice none 0 0] 94)) w.heap.size 94 [.slice none 0 0] := Row.new _ _ _
  have hb0 : Below w.heap.size w (w.alloc (.cells #[.slice none 0 0] 94)) := (Below.refl _ w).alloc (Nat.le_refl _) _
  have hz0 : (w.alloc (.cells #[.slice none 0 0] 94)).heap.size = w.heap.size + 1 := by simp
  obtain ⟨W0, hW0⟩ : ∃ W0, (w.alloc (.cells #[.slice none 0 0] 94)) = W0 := ⟨_, rfl⟩
  rw [hW0] at ra hb0 hz0 R1 B1 Z1
  rw [hz0] at R1 Z1
  have RA := Lib.hid (ra.below B1.out ra.lt)
  have BB := Lib.hid (hb0.trans (B1.out.mono (by omega)))
  have hz1 := Z1.out
  clear ra hb0 hz0 hW0 B1 Z1
  refine wpIn_rangeFunc_cell (P := Tryz.prog) (k := 8) (gf := 161) (lb := #[.pointer (some ⟨w.heap.size + 1, 0, none⟩)]) (b1 := w.heap.size + 1) (n0 := w.heap.size) rfl (enters_of Tryz.func161 (by kernel_rfl) rfl) (by omega) (by omega) (encs := encI) (Nw := NwI) (next := nextI) (s0 := []) (S := fun s => s = mlI c) (fun _ => rfl)
    (piter c (w.heap.size + 1) w.heap.size w1 (by omega) R1.out)
    (ScI w w.heap.size (w.heap.size + 4)) ?h1 ?h2 ?h3 ?hn ?h0
    (fun x => { tmps := #[.int .i64 c, undef, .slice none 0 0, .pointer (some ⟨w.heap.size, 0, none⟩), .int .i64 (x : Int), .int .i64 c, .func (.func 161) #[] #[.pointer (some ⟨w.heap.size + 1, 0, none⟩)], .int .i64 (x : Int), undef, undef, undef, undef, undef], defers := [] }) ?assign ?body ?done
  case h1 =>
    intro s A B h hb
    obtain ⟨v, q1, q2⟩ := h.rh
    exact h.up (UpI.of_below hb) (hb.block _ q1.lt) (hb.mono h.bel.size)
  case h2 =>
    intro s A v h
    exact h.up (UpI.setCell _ _ _ _ _ (by omega)) (heap_setCell_other A ⟨w.heap.size + 1, 0, none⟩ _ v (by simp)) ((Upd.setCell A (w.heap.size + 1) 0 v).below (by omega))
  case h3 =>
    intro s A l o h hl1 hl2
    exact h.up (UpI.putObj _ _ _ _ (by omega)) (World.putObj_heap_other (by omega)) (below_putObj (by omega))
  case hn =>
    intro s x A0 A l o h hl hs
    exact h
  case h0 => exact ⟨⟨_, RA.out, OwI.nil _ _⟩, BB.out⟩
  case assign =>
    intro l x W K hK
    simp only [encI]
    gi_wp2
    exact hK
  case body =>
    rintro l L x A0 W hA0 hW hsz hle hlow hnw
    obtain ⟨⟨v, q1, q2⟩, q4⟩ := hW
    have Q1 := Lib.hid q1
    have Q2 := Lib.hid q2
    have Q4 := Lib.hid q4
    have HW5 := Lib.hid (show w.heap.size + 4 ≤ W.heap.size by omega)
    have HLs := Lib.hid hnw.2
    have c1 := q1.k0
    clear q1 q2 q4 hA0 hlow hle hsz hnw
    gi_wp2_with (gi_at_builtin; ((refine append_int_in rfl _ _ rfl (w.heap.size + 4) v L ?_ ?_ W.heap.size 1 ?_ (x : Int) ?_ ?_ ?_ ?_); (focus (first | rfl | go_simp)); (focus (exact Q2.out.kept ((Below.refl _ W).alloc (Nat.le_refl _) _))); (focus (first | rfl | go_simp)); (focus (exact cell_of_row _ W.heap.size 0 _ 3 _ (heap_alloc_new W _))); (focus (have := HLs.out; omega)); (focus (have := HW5.out; simp; omega)); intro va vc w5 hf5 hb5; obtain ⟨nl, hnl⟩ : ∃ nl, L.length + 1 = nl := ⟨_, rfl⟩; rw [hnl] at hf5 ⊢; clear hnl; have F5 := Lib.hid hf5; have D5 := Lib.hid hb5; have G1 := Lib.hid (show Row w5 w.heap.size 94 [v] from (hb5.block _ (by omega)).trans (Q1.out.alloc _)); have c5 := G1.out.k0; have f5 := G1.out.frozen 0; clear hf5 hb5 c1))
    have hsz5 : w.heap.size + 4 ≤ W.heap.size := HW5.out
    have DA : Below (w.heap.size + 4) W w5 := ((Below.refl _ W).alloc hsz5 _).trans D5.out
    obtain ⟨v', hv'⟩ : ∃ v', Value.slice va nl vc = v' := ⟨_, rfl⟩
    rw [hv'] at F5 ⊢
    have u1 := Upd.setCell w5 w.heap.size 0 v'
    have DB : Below w.heap.size W (w5.setCell ⟨w.heap.size, 0, none⟩ v') := (DA.mono (by omega)).trans (u1.below (Nat.le_refl _))
    have hkeep : ∀ j, w.heap.size + 1 ≤ j → j < w.heap.size + 4 → (w5.setCell ⟨w.heap.size, 0, none⟩ v').heap[j]? = W.heap[j]? := fun j h1 h2 => (u1.block j (by omega)).trans (DA.block j h2)
    refine ⟨⟨⟨v', ?_, ?_⟩, Q4.out.trans DB⟩, ⟨hkeep _ (Nat.le_refl _) (by omega), DB⟩, fun j o h1 h2 ho _ => (hkeep j (by omega) (by omega)).trans ho⟩
    · exact G1.out.setV 0 _
    · exact F5.out.up (UpI.setCell _ _ _ _ _ (by omega))
  case done =>
    rintro s W rfl hS hK
    obtain ⟨v, q1, q2⟩ := hS.rh
    have c1 := q1.k0
    have Q2 := Lib.hid q2
    have QB := Lib.hid hS.bel
    have HK := Lib.hid hK
    clear q1 q2 hS
    gi_wp2
    refine ⟨by simp, .inl ⟨_, _, rfl, run_takeDeferred HK.out, ?_⟩⟩
    refine ⟨_, results_tmp rfl _ _ _, _, rfl, ?_, ?_⟩
    · exact (Q2.out.up (UpI.putObj _ _ _ _ (by omega))).base (by omega)
    · exact QB.out.trans (below_putObj (by omega))
theorem plist (c : Int) (w : World) :
    Calls Tryz.prog 91 #[.int .i64 c] w fun y w' => ∃ v, y = .returned v ∧ OwI w' w.heap.size v (mlI c) ∧ Below w.heap.size w w' :=
  callsIn_wide.1 (plist_in c w)
end Go.Proofs.YtjkkopbhdeljmaaGreat.W
