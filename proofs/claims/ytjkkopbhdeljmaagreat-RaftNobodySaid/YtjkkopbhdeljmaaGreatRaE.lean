/- LAYER 17 (raft): New, View, Tick of a node that has heard, or is alone. LAYER 17 (raft): New, View. LAYER 17 (raft): what no call made; awake; the law Nobody. -/
import Derived.Test.YtjkkopbhdeljmaaGreatRaO
import Derived.Test.YtjkkopbhdeljmaaGreatLg
set_option linter.unusedSimpArgs false
set_option linter.unusedVariables false
namespace Go.Proofs.YtjkkopbhdeljmaaGreat.W
open Go Go.ChangeShapes Go.WideShapes Go.ChangeAt Go.RowKit

theorem out_zero : (Tryz.prog.info? 42).map (·.zero) = some (some (.agg [Value.slice none 0 0, .slice none 0 0, .bool false].toArray)) := by kernel_rfl
theorem out_size : (Tryz.prog.info? 42).map (·.size) = some 3 := by kernel_rfl
theorem RO.start {w w' : World} {g p o : Nat} {F : Nat → Prop} {s : RS} (h : RW w g p F (fun _ => False) s) (hr : Row w' o 42 [.slice none 0 0, .slice none 0 0, .bool false]) (ho : o = w.heap.size) (hb : Below w.heap.size w w') : RO w' g p o F (fun k => k = o) s 0 := by
  obtain ⟨C, sa, sn, sc, d, hrow, hc, hd, ha⟩ := h.ex
  refine ⟨⟨⟨C, sa, sn, sc, d, hrow.below hb hrow.lt, hc, hd.mono hb, fun hn b off e => ⟨(ha hn b off e).1, fun hk => ?_, (ha hn b off e).2.2⟩⟩, h.log.mono hb, h.gF, h.l7⟩, ⟨⟨_, _, _, [], [], hr, LsO.nil _ _, LsO.nil _ _, Nat.le_refl _, Nat.le_refl _, fun b e => (by cases e), fun b e => (by cases e), fun b e => (by cases e)⟩, rfl, fun k hk => ?_⟩, fun k hk hf => ?_, fun hk => ?_⟩
  · have := hd.blk hn b off e; omega
  · subst hk; exact hr.lt
  · have := h.log.lt k hf; omega
  · have := hrow.lt; omega
theorem RO.finish {w : World} {g p o : Nat} {F O : Nat → Prop} {s : RS} {n : Nat} (h : RO w g p o F O s n) : RW w g p F (fun _ => False) s := by
  obtain ⟨C, sa, sn, sc, d, hrow, hc, hd, ha⟩ := h.rw.ex
  exact ⟨⟨C, sa, sn, sc, d, hrow, hc, hd, fun hn b off e => ⟨(ha hn b off e).1, fun hk => hk, (ha hn b off e).2.2⟩⟩, h.rw.log, h.rw.gF, h.rw.l7⟩
/-- what a public call leaves -/
structure Pb17 (w w' : World) (g : Nat) (F F' : Nat → Prop) : Prop where
  ft : Ft (fun k => k = g ∨ F k) w w'
  gf : Grew w F F'
theorem Pb17.of {w w1 w' : World} {g o : Nat} {F F' O' : Nat → Prop} (hb : Below w.heap.size w w1) (ho : w.heap.size ≤ o) (h : Sp17 w1 w' g F (fun k => k = o) F' O') : Pb17 w w' g F F' :=
  ⟨(Ft.of_below (F := fun k => k = g ∨ F k) hb).on h.ft (fun b hk => by
    rcases hk with hk | hk | hk
    · exact .inl (.inl hk)
    · exact .inl (.inr hk)
    · exact .inr (by omega)), fun k hk => (h.gf k hk).elim .inl (fun h1 => .inr (Nat.le_trans hb.size h1))⟩
theorem Pb17.trans {w w' w'' : World} {g : Nat} {F F' F'' : Nat → Prop} (h : Pb17 w w' g F F') (k : Pb17 w' w'' g F' F'') : Pb17 w w'' g F F'' :=
  ⟨h.ft.on k.ft (fun b hk => by
    rcases hk with hk | hk
    · exact .inl (.inl hk)
    · exact (h.gf b hk).elim (fun h1 => .inl (.inr h1)) .inr), h.gf.trans k.gf h.ft.size⟩
theorem Pb17.tail {w w' w'' : World} {g : Nat} {F F' : Nat → Prop} (h : Pb17 w w' g F F') (hb : Below w.heap.size w' w'') : Pb17 w w'' g F F' :=
  ⟨⟨hb.os.trans h.ft.os, hb.tape.trans h.ft.tape, hb.output.trans h.ft.output, Nat.le_trans h.ft.size hb.size, fun k hk hn => (hb.block k hk).trans (h.ft.block k hk hn)⟩, h.gf⟩
theorem Pb17.below {w w' : World} {g base : Nat} {F F' : Nat → Prop} (h : Pb17 w w' g F F') (hb : base ≤ w.heap.size) (hg : base ≤ g) (hF : ∀ k, F k → base ≤ k) : Below base w w' := h.ft.below hb (fun k hk => hk.elim (fun e => by omega) (hF k))
theorem lso_slice17 {α : Type} {E : El α} {w : World} {base : Nat} {v : Value} {L : List α} (h : LsO E w base v L) : ∃ a n c, v = .slice a n c := by
  rcases h.2 with ⟨e, -⟩ | ⟨q, c, cur, e, -⟩
  · exact ⟨_, _, _, e⟩
  · exact ⟨_, _, _, e⟩
theorem out_one17 {w : World} {vm vr : Value} {Lm : List (Raw 13)} {Lr : List (Raw 10)} (hm : LsO msR w 0 vm Lm) (hr : LsO rcR w 0 vr Lr) (ld : Bool) : ∀ v ∈ [vm, vr, Value.bool ld], v.oneCell' = true := by
  obtain ⟨a, n, c, rfl⟩ := lso_slice17 hm
  obtain ⟨a2, n2, c2, rfl⟩ := lso_slice17 hr
  intro v hv
  simp only [List.mem_cons, List.not_mem_nil, or_false] at hv
  rcases hv with rfl | rfl | rfl <;> rfl
theorem NB_out17 : NB [Value.slice none 0 0, .slice none 0 0, .bool false] := by intro x hx; simp [B] at hx
theorem RW.upd17 {w w' : World} {g p q : Nat} {F O : Nat → Prop} {s : RS} {t : TypeId} {L : List Value} (h : RW w g p F O s) (hu : Upd w w' q) (hq : Row w q t L) (hnb : NB L) (hg : q ≠ g) (hF : ¬ F q) : RW w' g p F O s := by
  have hf : Ft (fun k => k = q) w w' := Ft.of_upd hu rfl
  obtain ⟨C, sa, sn, sc, d, hr, hc, hd, ha⟩ := h.ex
  exact ⟨⟨C, sa, sn, sc, d, hr.upd hu (fun e => hg e.symm), hc, hd.put hq hnb hu, ha⟩, h.log.ft hf (fun x hx e => hF (by rw [← e]; exact hx)), h.gF, h.l7⟩
set_option maxRecDepth 100000 in
set_option maxHeartbeats 16000000 in
theorem atick_idle {w : World} {g p : Nat} {F : Nat → Prop} {s : RS} (h : RW w g p F (fun _ => False) s) (hm : 0 ≤ s.me ∧ s.me ≤ 6) (hro : s.role = 0) (hw : 0 ≤ s.waited ∧ s.waited + 1 < timeV s.me) :
    Calls Tryz.prog 10 #[.pointer (some ⟨g, 0, none⟩)] w fun x w' => (∃ v, x = .returned v) ∧ RW w' g p F (fun _ => False) { s with waited := s.waited + 1 } ∧ Pb17 w w' g F F := by
  have H := Lib.hid h
  have OZ := Lib.hid out_zero
  have OS := Lib.hid out_size
  have hT : timeV s.me ≤ 28 := by unfold timeV; split <;> omega
  obtain ⟨hw0, hw1⟩ := hw
  have hq0 : (s.role == 3) = false := by rw [hro]; rfl
  clear hro
  have hq1 : IntKind.i64.wrap (s.waited + 1) = s.waited + 1 := by rw [IntKind.wrap_i64]; omega
  have hq2 : s.waited + 1 ≤ 2147483648 := by omega
  have hq3 : ¬ (2147483648 < s.waited + 1) := by omega
  have hq5 : min (s.waited + 1) 2147483648 = s.waited + 1 := by omega
  have hq4 : ¬ (timeV s.me ≤ s.waited + 1) := by omega
  clear h
  go_enter Tryz.func10, Tryz.ntmps10
  go_wp2_with (first
    | ((with_reducible refine alloc_row (o := ⟨some 2, _, _, _, _, _⟩) rfl _ rfl _ OZ.out ?_); intro w1 hr hb hz; have R1 := Lib.hid hr; have B1 := Lib.hid hb; clear hr hb hz)
    | ((with_reducible refine alloc_row (o := ⟨some 3, _, _, _, _, _⟩) rfl _ rfl _ OZ.out ?_); intro w2 hr hb hz; have h2 := RO.start (H.out.mono B1.out) hr rfl hb; have Q2 := Lib.hid (R1.out.below hb R1.out.lt); have B2 := Lib.hid (B1.out.trans (hb.mono B1.out.size)); have H2 := Lib.hid h2; clear hr hb hz; obtain ⟨C2, sa2, sn2, sc2, r2, rc2⟩ := h2.rw.cells; have c28 := r2.at17 rc2.c28; have c31 := r2.at17 rc2.c31; have z31 := r2.frozen 31; have HC2 := Lib.hid r2; clear r2 rc2 h2)
    | (go_at_call 22; (with_reducible refine (aready H2.out.rw).mono ?_); rintro x w' ⟨rfl, rfl⟩))
  obtain ⟨h3, s3, r3⟩ := H2.out.set1 HC2.out 31 (.int .i64 (s.waited + 1)) { s with waited := s.waited + 1 } (fun _ h => h.setWaited _) rfl H2.out.rw.l7
  have hlt1 := Q2.out.lt
  have hg1 := H.out.lt
  obtain ⟨w3, hw3⟩ : ∃ x, w2.setCell ⟨g, 31, none⟩ (.int .i64 (s.waited + 1)) = x := ⟨_, rfl⟩
  have hu3 : Upd w2 w3 g := by rw [← hw3]; exact Upd.setCell w2 g 31 _
  have c28' : w3.cell? ⟨g, 28, none⟩ = some (.int .i64 s.role) := by
    rw [hw3] at h3
    obtain ⟨C3, sa3, sn3, sc3, r3', rc3⟩ := h3.rw.cells
    exact r3'.at17 rc3.c28
  rw [hw3] at h3 s3 ⊢
  have H3 := Lib.hid h3
  have S3 := Lib.hid s3
  have Q3 := Lib.hid (Q2.out.upd hu3 (by omega))
  clear h3 s3 r3 hw3 hu3 c28 c31 z31
  obtain ⟨C3, sa3, sn3, sc3, r3, rc3⟩ := H3.out.rw.cells
  have K31 := Lib.hid (r3.at17 rc3.c31)
  have K25 := Lib.hid (r3.at17 rc3.c25)
  have K26 := Lib.hid (r3.at17 rc3.c26)
  clear r3 rc3
  go_wp2_with fail
  refine region_h (fun v => Below w3.heap.size w3 v) (by kernel_rfl) (by kernel_rfl) (Below.refl _ _).drew ?_
  obtain ⟨we, hwe⟩ : ∃ we, w3.drew = we := ⟨_, rfl⟩
  have E0 : Hid (Below w3.heap.size w3 we) := Lib.hid (by rw [← hwe]; exact (Below.refl _ _).drew)
  rw [hwe]
  clear hwe
  (refine h_read 0 rfl (by kernel_rfl) (by kernel_rfl) (h_free rfl) ?_ ?_ ?_; rotate_left; (focus (intro v hv; go_simp; rfl)); go_simp)
  (refine h_read 1 rfl (by kernel_rfl) (by kernel_rfl) (h_free rfl) ?_ ?_ ?_; rotate_left; (focus (intro v hv; go_simp; rfl)); go_simp)
  (refine h_read 2 rfl (by kernel_rfl) (by kernel_rfl) (h_free rfl) ?_ ?_ ?_; rotate_left; (focus (intro v hv; go_simp; rfl)); go_simp)
  (refine h_read 3 rfl (by kernel_rfl) (by kernel_rfl) (h_free rfl) ?_ ?_ ?_; rotate_left; (focus (intro v hv; have q25 := (hv.cell (p := ⟨g, 25, none⟩) (World.block_lt_of_cell? w3 _ K25.out)).trans K25.out; have q26 := (hv.cell (p := ⟨g, 26, none⟩) (World.block_lt_of_cell? w3 _ K26.out)).trans K26.out; have q31 := (hv.cell (p := ⟨g, 31, none⟩) (World.block_lt_of_cell? w3 _ K31.out)).trans K31.out; go_simp; rfl)); go_simp)
  (refine h_read 4 rfl (by kernel_rfl) (by kernel_rfl) (h_free rfl) ?_ ?_ ?_; rotate_left; (focus (intro v hv; go_simp; rfl)); go_simp)
  (refine h_read 5 rfl (by kernel_rfl) (by kernel_rfl) (h_free rfl) ?_ ?_ ?_; rotate_left; (focus (intro v hv; go_simp; rfl)); go_simp)
  (refine h_read 6 rfl (by kernel_rfl) (by kernel_rfl) (h_free rfl) ?_ ?_ ?_; rotate_left; (focus (intro v hv; go_simp; rfl)); go_simp)
  (refine h_read 7 rfl (by kernel_rfl) (by kernel_rfl) (h_free rfl) ?_ ?_ ?_; rotate_left; (focus (intro v hv; have q25 := (hv.cell (p := ⟨g, 25, none⟩) (World.block_lt_of_cell? w3 _ K25.out)).trans K25.out; have q26 := (hv.cell (p := ⟨g, 26, none⟩) (World.block_lt_of_cell? w3 _ K26.out)).trans K26.out; have q31 := (hv.cell (p := ⟨g, 31, none⟩) (World.block_lt_of_cell? w3 _ K31.out)).trans K31.out; go_simp; rfl)); go_simp)
  (refine h_call 8 rfl (by kernel_rfl) (h_free rfl) 28 ?_ ?_ ?_; rotate_left; (focus (go_simp; rfl)))
  refine (pTime s.me we).mono ?_
  rintro x w5 ⟨rfl, hb5⟩
  have E5 := Lib.hid (E0.out.trans (hb5.mono E0.out.size))
  clear hb5
  refine ⟨_, rfl, E5.out, ?_⟩
  go_simp
  (refine h_read 9 rfl (by kernel_rfl) (by kernel_rfl) (h_free rfl) ?_ ?_ ?_; rotate_left; (focus (intro v hv; go_simp; rfl)); go_simp)
  (refine h_read 10 rfl (by kernel_rfl) (by kernel_rfl) (h_free rfl) ?_ ?_ ?_; rotate_left; (focus (intro v hv; go_simp; rfl)); go_simp)
  (refine h_skip 11 rfl (by kernel_rfl) (by kernel_rfl) ?_ ?_; (focus (go_simp; first | done | (intro h; cases h) | simp)); go_simp)
  (refine h_skip 12 rfl (by kernel_rfl) (by kernel_rfl) ?_ ?_; (focus (go_simp; first | done | (intro h; cases h) | simp)); go_simp)
  (refine h_skip 13 rfl (by kernel_rfl) (by kernel_rfl) ?_ ?_; (focus (go_simp; first | done | (intro h; cases h) | simp)); go_simp)
  (refine h_skip 14 rfl (by kernel_rfl) (by kernel_rfl) ?_ ?_; (focus (go_simp; first | done | (intro h; cases h) | simp)); go_simp)
  (refine h_skip 15 rfl (by kernel_rfl) (by kernel_rfl) ?_ ?_; (focus (go_simp; first | done | (intro h; cases h) | simp)); go_simp)
  (refine h_skip 16 rfl (by kernel_rfl) (by kernel_rfl) ?_ ?_; (focus (go_simp; first | done | (intro h; cases h) | simp)); go_simp)
  (refine h_skip 17 rfl (by kernel_rfl) (by kernel_rfl) ?_ ?_; (focus (go_simp; first | done | (intro h; cases h) | simp)); go_simp)
  (refine h_skip 18 rfl (by kernel_rfl) (by kernel_rfl) ?_ ?_; (focus (go_simp; first | done | (intro h; cases h) | simp)); go_simp)
  (refine h_skip 19 rfl (by kernel_rfl) (by kernel_rfl) ?_ ?_; (focus (go_simp; first | done | (intro h; cases h) | simp)); go_simp)
  (refine h_skip 20 rfl (by kernel_rfl) (by kernel_rfl) ?_ ?_; (focus (go_simp; first | done | (intro h; cases h) | simp)); go_simp)
  (refine h_read 21 rfl (by kernel_rfl) (by kernel_rfl) (h_free rfl) ?_ ?_ ?_; rotate_left; (focus (intro v hv; go_simp; rfl)); go_simp)
  (refine h_read 22 rfl (by kernel_rfl) (by kernel_rfl) (h_free rfl) ?_ ?_ ?_; rotate_left; (focus (intro v hv; go_simp; rfl)); go_simp)
  refine h_done (by kernel_rfl) ?_
  have H9 := Lib.hid (H3.out.mono E5.out)
  have Q9 := Lib.hid (Q3.out.below E5.out Q3.out.lt)
  have S9 := Lib.hid (S3.out.trans (Sp17.of_below E5.out))
  obtain ⟨vm, vr, ld, Lm, Lr, hro5, hm5, hr5, -⟩ := H9.out.ow.ex
  have RO9 := Lib.hid hro5
  have OV := Lib.hid (out_one17 hm5 hr5 ld)
  clear hro5 hm5 hr5
  go_wp2_with (first
    | ((with_reducible refine load_row (o := ⟨some 55, _, _, _, _, _⟩) rfl _ _ rfl w1.heap.size ?_ _ [vm, vr, .bool ld] _ RO9.out Tryz.underlying42 rfl ?_ ?_); (focus go_simp); (focus (exact OS.out)))
    | ((with_reducible refine store_row (o := ⟨none, _, _, _, _, _⟩) rfl _ (.tmp 2) _ rfl w.heap.size [vm, vr, .bool ld] ?_ ?_ 42 _ Q9.out ?_ ?_ ?_ ?_); (focus go_simp); (focus (first | (go_simp; done) | (go_simp; rfl))); (focus (exact OS.out)); (focus rfl); (focus (exact OV.out)); intro wz hr hu; have RZ := Lib.hid hr; have UZ := Lib.hid hu; clear hr hu))
  have hgw : w.heap.size ≠ g := by omega
  have hF := H.out.log.lt
  have PB := Pb17.of (g := g) (F := F) B2.out B1.out.size S9.out
  have PZ : Pb17 w wz g F F := PB.tail (UZ.out.below (Nat.le_refl _))
  refine bodyPost_ret (results_cell_row rfl _ _ w.heap.size 42 _ _ _ (by go_simp) RZ.out Tryz.underlying42 rfl OS.out) rfl ⟨⟨_, rfl⟩, H9.out.finish.upd17 UZ.out Q9.out NB_out17 hgw (fun hk => absurd (H.out.log.lt _ hk) (Nat.lt_irrefl _)), PZ⟩
set_option maxRecDepth 100000 in
set_option maxHeartbeats 16000000 in
theorem atick_ask {w : World} {g p : Nat} {F : Nat → Prop} {s : RS} (h : RW w g p F (fun _ => False) s) (hm : 0 ≤ s.me ∧ s.me ≤ 6) (hro : s.role = 0) (hw : 0 ≤ s.waited ∧ s.waited ≤ 1000000) (hwt : timeV s.me ≤ s.waited + 1) (hmem : B.mem (s.q.confAt s.q.last) s.me = true) (ht : 0 ≤ s.term ∧ s.term ≤ 9000000000000000000) (hlast : 0 ≤ s.q.last ∧ s.q.last ≤ 9000000000000000000) (hq : s.q.l.length + 1 ≤ 200) (q' : LS) (hq' : (s.q.app (s.q.last + 1, s.term + 1, 0, [])).1 = q') (ho : oth (q'.confAt q'.last) s.me = []) (hwon : quoM (s.q.confAt s.q.last) (votesOf s.me) = true) :
    Calls Tryz.prog 10 #[.pointer (some ⟨g, 0, none⟩)] w fun x w' => (∃ v, x = .returned v) ∧ ∃ F', RW w' g p F' (fun _ => False) (s.led (s.term + 1) q') ∧ Pb17 w w' g F F' := by
  have HMEM := Lib.hid hmem
  have HAS := Lib.hid (fun (w6 : World) (o : Nat) (O : Nat → Prop) (h6 : RO w6 g p o F O { s with waited := s.waited + 1 } 0) => aask_alone h6 (by omega) hm ht hlast hq q' hq' ho hwon)
  clear hmem ht hlast hq hq' ho hwon
  have H := Lib.hid h
  have OZ := Lib.hid out_zero
  have OS := Lib.hid out_size
  have hT : timeV s.me ≤ 28 := by unfold timeV; split <;> omega
  obtain ⟨hw0, hw1⟩ := hw
  have hq0 : (s.role == 3) = false := by rw [hro]; rfl
  clear hro
  have hq1 : IntKind.i64.wrap (s.waited + 1) = s.waited + 1 := by rw [IntKind.wrap_i64]; omega
  have hq2 : s.waited + 1 ≤ 2147483648 := by omega
  have hq3 : ¬ (2147483648 < s.waited + 1) := by omega
  have hq5 : min (s.waited + 1) 2147483648 = s.waited + 1 := by omega
  have hq4 := hwt
  clear h
  go_enter Tryz.func10, Tryz.ntmps10
  go_wp2_with (first
    | ((with_reducible refine alloc_row (o := ⟨some 2, _, _, _, _, _⟩) rfl _ rfl _ OZ.out ?_); intro w1 hr hb hz; have R1 := Lib.hid hr; have B1 := Lib.hid hb; clear hr hb hz)
    | ((with_reducible refine alloc_row (o := ⟨some 3, _, _, _, _, _⟩) rfl _ rfl _ OZ.out ?_); intro w2 hr hb hz; have h2 := RO.start (H.out.mono B1.out) hr rfl hb; have Q2 := Lib.hid (R1.out.below hb R1.out.lt); have B2 := Lib.hid (B1.out.trans (hb.mono B1.out.size)); have H2 := Lib.hid h2; clear hr hb hz; obtain ⟨C2, sa2, sn2, sc2, r2, rc2⟩ := h2.rw.cells; have c28 := r2.at17 rc2.c28; have c31 := r2.at17 rc2.c31; have z31 := r2.frozen 31; have HC2 := Lib.hid r2; clear r2 rc2 h2)
    | (go_at_call 22; (with_reducible refine (aready H2.out.rw).mono ?_); rintro x w' ⟨rfl, rfl⟩))
  obtain ⟨h3, s3, r3⟩ := H2.out.set1 HC2.out 31 (.int .i64 (s.waited + 1)) { s with waited := s.waited + 1 } (fun _ h => h.setWaited _) rfl H2.out.rw.l7
  have hlt1 := Q2.out.lt
  have hg1 := H.out.lt
  obtain ⟨w3, hw3⟩ : ∃ x, w2.setCell ⟨g, 31, none⟩ (.int .i64 (s.waited + 1)) = x := ⟨_, rfl⟩
  have hu3 : Upd w2 w3 g := by rw [← hw3]; exact Upd.setCell w2 g 31 _
  have c28' : w3.cell? ⟨g, 28, none⟩ = some (.int .i64 s.role) := by
    rw [hw3] at h3
    obtain ⟨C3, sa3, sn3, sc3, r3', rc3⟩ := h3.rw.cells
    exact r3'.at17 rc3.c28
  rw [hw3] at h3 s3 ⊢
  have H3 := Lib.hid h3
  have S3 := Lib.hid s3
  have Q3 := Lib.hid (Q2.out.upd hu3 (by omega))
  clear h3 s3 r3 hw3 hu3 c28 c31 z31
  obtain ⟨C3, sa3, sn3, sc3, r3, rc3⟩ := H3.out.rw.cells
  have K31 := Lib.hid (r3.at17 rc3.c31)
  have K25 := Lib.hid (r3.at17 rc3.c25)
  have K26 := Lib.hid (r3.at17 rc3.c26)
  clear r3 rc3
  go_wp2_with fail
  refine region_h (fun v => Below w3.heap.size w3 v) (by kernel_rfl) (by kernel_rfl) (Below.refl _ _).drew ?_
  obtain ⟨we, hwe⟩ : ∃ we, w3.drew = we := ⟨_, rfl⟩
  have E0 : Hid (Below w3.heap.size w3 we) := Lib.hid (by rw [← hwe]; exact (Below.refl _ _).drew)
  rw [hwe]
  clear hwe
  (refine h_read 0 rfl (by kernel_rfl) (by kernel_rfl) (h_free rfl) ?_ ?_ ?_; rotate_left; (focus (intro v hv; go_simp; rfl)); go_simp)
  (refine h_read 1 rfl (by kernel_rfl) (by kernel_rfl) (h_free rfl) ?_ ?_ ?_; rotate_left; (focus (intro v hv; go_simp; rfl)); go_simp)
  (refine h_read 2 rfl (by kernel_rfl) (by kernel_rfl) (h_free rfl) ?_ ?_ ?_; rotate_left; (focus (intro v hv; go_simp; rfl)); go_simp)
  (refine h_read 3 rfl (by kernel_rfl) (by kernel_rfl) (h_free rfl) ?_ ?_ ?_; rotate_left; (focus (intro v hv; have q25 := (hv.cell (p := ⟨g, 25, none⟩) (World.block_lt_of_cell? w3 _ K25.out)).trans K25.out; have q26 := (hv.cell (p := ⟨g, 26, none⟩) (World.block_lt_of_cell? w3 _ K26.out)).trans K26.out; have q31 := (hv.cell (p := ⟨g, 31, none⟩) (World.block_lt_of_cell? w3 _ K31.out)).trans K31.out; go_simp; rfl)); go_simp)
  (refine h_read 4 rfl (by kernel_rfl) (by kernel_rfl) (h_free rfl) ?_ ?_ ?_; rotate_left; (focus (intro v hv; go_simp; rfl)); go_simp)
  (refine h_read 5 rfl (by kernel_rfl) (by kernel_rfl) (h_free rfl) ?_ ?_ ?_; rotate_left; (focus (intro v hv; go_simp; rfl)); go_simp)
  (refine h_read 6 rfl (by kernel_rfl) (by kernel_rfl) (h_free rfl) ?_ ?_ ?_; rotate_left; (focus (intro v hv; go_simp; rfl)); go_simp)
  (refine h_read 7 rfl (by kernel_rfl) (by kernel_rfl) (h_free rfl) ?_ ?_ ?_; rotate_left; (focus (intro v hv; have q25 := (hv.cell (p := ⟨g, 25, none⟩) (World.block_lt_of_cell? w3 _ K25.out)).trans K25.out; have q26 := (hv.cell (p := ⟨g, 26, none⟩) (World.block_lt_of_cell? w3 _ K26.out)).trans K26.out; have q31 := (hv.cell (p := ⟨g, 31, none⟩) (World.block_lt_of_cell? w3 _ K31.out)).trans K31.out; go_simp; rfl)); go_simp)
  (refine h_call 8 rfl (by kernel_rfl) (h_free rfl) 28 ?_ ?_ ?_; rotate_left; (focus (go_simp; rfl)))
  refine (pTime s.me we).mono ?_
  rintro x w5 ⟨rfl, hb5⟩
  have E5 := Lib.hid (E0.out.trans (hb5.mono E0.out.size))
  clear hb5
  refine ⟨_, rfl, E5.out, ?_⟩
  go_simp
  (refine h_read 9 rfl (by kernel_rfl) (by kernel_rfl) (h_free rfl) ?_ ?_ ?_; rotate_left; (focus (intro v hv; go_simp; rfl)); go_simp)
  (refine h_read 10 rfl (by kernel_rfl) (by kernel_rfl) (h_free rfl) ?_ ?_ ?_; rotate_left; (focus (intro v hv; go_simp; rfl)); go_simp)
  (refine h_read 11 rfl (by kernel_rfl) (by kernel_rfl) ?_ ?_ ?_ ?_; (focus (go_simp; done)); rotate_left; (focus (intro v hv; go_simp; rfl)); go_simp)
  (refine h_read 12 rfl (by kernel_rfl) (by kernel_rfl) ?_ ?_ ?_ ?_; (focus (go_simp; done)); rotate_left; (focus (intro v hv; go_simp; rfl)); go_simp)
  (refine h_read 13 rfl (by kernel_rfl) (by kernel_rfl) ?_ ?_ ?_ ?_; (focus (go_simp; done)); rotate_left; (focus (intro v hv; go_simp; rfl)); go_simp)
  (refine h_read 14 rfl (by kernel_rfl) (by kernel_rfl) ?_ ?_ ?_ ?_; (focus (go_simp; done)); rotate_left; (focus (intro v hv; have q25 := (hv.cell (p := ⟨g, 25, none⟩) (World.block_lt_of_cell? w3 _ K25.out)).trans K25.out; have q26 := (hv.cell (p := ⟨g, 26, none⟩) (World.block_lt_of_cell? w3 _ K26.out)).trans K26.out; have q31 := (hv.cell (p := ⟨g, 31, none⟩) (World.block_lt_of_cell? w3 _ K31.out)).trans K31.out; go_simp; rfl)); go_simp)
  (refine h_read 16 rfl (by kernel_rfl) (by kernel_rfl) ?_ ?_ ?_ ?_; (focus (go_simp; done)); rotate_left; (focus (intro v hv; go_simp; rfl)); go_simp)
  (refine h_read 17 rfl (by kernel_rfl) (by kernel_rfl) ?_ ?_ ?_ ?_; (focus (go_simp; done)); rotate_left; (focus (intro v hv; go_simp; rfl)); go_simp)
  (refine h_read 18 rfl (by kernel_rfl) (by kernel_rfl) ?_ ?_ ?_ ?_; (focus (go_simp; done)); rotate_left; (focus (intro v hv; go_simp; rfl)); go_simp)
  (refine h_read 19 rfl (by kernel_rfl) (by kernel_rfl) ?_ ?_ ?_ ?_; (focus (go_simp; done)); rotate_left; (focus (intro v hv; have q25 := (hv.cell (p := ⟨g, 25, none⟩) (World.block_lt_of_cell? w3 _ K25.out)).trans K25.out; have q26 := (hv.cell (p := ⟨g, 26, none⟩) (World.block_lt_of_cell? w3 _ K26.out)).trans K26.out; have q31 := (hv.cell (p := ⟨g, 31, none⟩) (World.block_lt_of_cell? w3 _ K31.out)).trans K31.out; go_simp; rfl)); go_simp)
  (refine h_call 15 rfl (by kernel_rfl) ?_ 26 ?_ ?_ ?_; (focus (go_simp; done)); rotate_left; (focus (go_simp; rfl)))
  refine (qconf (H3.out.mono E5.out).rw.log).mono ?_
  rintro x w6 ⟨rfl, hb6⟩
  have E6 := Lib.hid (E5.out.trans (hb6.mono E5.out.size))
  clear hb6
  refine ⟨_, rfl, E6.out, ?_⟩
  go_simp
  (refine h_call 20 rfl (by kernel_rfl) ?_ 29 ?_ ?_ ?_; (focus (go_simp; done)); rotate_left; (focus (go_simp; rfl)))
  refine (phas (s.q.confAt s.q.last) s.me w6).mono ?_
  rw [HMEM.out]
  rintro x w7 ⟨rfl, rfl⟩
  refine ⟨_, rfl, E6.out, ?_⟩
  go_simp
  (refine h_read 21 rfl (by kernel_rfl) (by kernel_rfl) (h_free rfl) ?_ ?_ ?_; rotate_left; (focus (intro v hv; go_simp; rfl)); go_simp)
  (refine h_read 22 rfl (by kernel_rfl) (by kernel_rfl) (h_free rfl) ?_ ?_ ?_; rotate_left; (focus (intro v hv; go_simp; rfl)); go_simp)
  refine h_done (by kernel_rfl) ?_
  have HSK := Lib.hid (HAS.out w6 w1.heap.size _ (H3.out.mono E6.out))
  have Q6 := Lib.hid (Q3.out.below E6.out Q3.out.lt)
  have S6 := Lib.hid (S3.out.trans (Sp17.of_below E6.out))
  go_wp2_with (first
    | (go_at_call 30; (with_reducible refine HSK.out.mono ?_); rintro x w9 ⟨rfl, F9, O9, h9, s9⟩; have H9 := Lib.hid h9; have S9 := Lib.hid (S6.out.trans s9); have Q9 := Lib.hid (Q6.out.ft s9.ft (fun hk => by rcases hk with hk | hk | hk; exact absurd hk (by omega); exact absurd (H.out.log.lt _ hk) (Nat.lt_irrefl _); exact absurd hk (by have := B1.out.size; have := R1.out.lt; omega))); obtain ⟨vm, vr, ld, Lm, Lr, hro5, hm5, hr5, -⟩ := h9.ow.ex; have RO9 := Lib.hid hro5; have OV := Lib.hid (out_one17 hm5 hr5 ld); clear h9 s9 hro5 hm5 hr5)
    | ((with_reducible refine load_row (o := ⟨some 55, _, _, _, _, _⟩) rfl _ _ rfl w1.heap.size ?_ _ [vm, vr, .bool ld] _ RO9.out Tryz.underlying42 rfl ?_ ?_); (focus go_simp); (focus (exact OS.out)))
    | ((with_reducible refine store_row (o := ⟨none, _, _, _, _, _⟩) rfl _ (.tmp 2) _ rfl w.heap.size [vm, vr, .bool ld] ?_ ?_ 42 _ Q9.out ?_ ?_ ?_ ?_); (focus go_simp); (focus (first | (go_simp; done) | (go_simp; rfl))); (focus (exact OS.out)); (focus rfl); (focus (exact OV.out)); intro wz hr hu; have RZ := Lib.hid hr; have UZ := Lib.hid hu; clear hr hu))
  have hgw : w.heap.size ≠ g := by omega
  have hF := H.out.log.lt
  have PB := Pb17.of (g := g) (F := F) B2.out B1.out.size S9.out
  have PZ : Pb17 w wz g F F9 := PB.tail (UZ.out.below (Nat.le_refl _))
  refine bodyPost_ret (results_cell_row rfl _ _ w.heap.size 42 _ _ _ (by go_simp) RZ.out Tryz.underlying42 rfl OS.out) rfl ⟨⟨_, rfl⟩, F9, H9.out.finish.upd17 UZ.out Q9.out NB_out17 hgw (fun hk => (S9.out.gf _ hk).elim (fun h1 => absurd (H.out.log.lt _ h1) (Nat.lt_irrefl _)) (fun h1 => absurd h1 (by omega))), PZ⟩
end Go.Proofs.YtjkkopbhdeljmaaGreat.W

namespace Go.Proofs.YtjkkopbhdeljmaaGreat.W
open Go Go.ChangeShapes Go.WideShapes Go.ChangeAt Go.RowKit

/-- a new node's cells -/
def newC (me t v b : Int) (p : Nat) (sa : Option Addr) (sn sc : Nat) : List Value := [.int .i64 t, .int .i64 v] ++ (List.replicate 22 (Value.int .i64 0) ++ ([.slice none 0 0, .int .i64 me, .pointer (some ⟨p, 0, none⟩), .slice sa sn sc, .int .i64 0, .int .i64 0, .int .i64 b] ++ List.replicate 3 (Value.int .i64 0)))
theorem raft_built (me t v b : Int) (p : Nat) (sa : Option Addr) (sn sc : Nat) : Tryz.prog.built 59 [(0, .agg #[.int .i64 t, .int .i64 v]), (2, .int .i64 me), (3, .pointer (some ⟨p, 0, none⟩)), (4, .slice sa sn sc), (7, .int .i64 b)] = some (newC me t v b p sa sn sc).toArray := by kernel_rfl
/-- a new node, plain -/
def RS.new (me t v b : Int) (q : LS) : RS := ⟨t, v, zero7, zero7, zero7, 0, me, 0, 0, b, 0, 0, 0, q⟩
theorem new_rc (me t v b : Int) (p : Nat) (sa : Option Addr) (sn sc : Nat) (q : LS) : RC (newC me t v b p sa sn sc) (RS.new me t v b q) p (.slice sa sn sc) := by
  have h7 : ∀ i, i < 7 → i = 0 ∨ i = 1 ∨ i = 2 ∨ i = 3 ∨ i = 4 ∨ i = 5 ∨ i = 6 := fun i hi => by omega
  refine ⟨rfl, rfl, rfl, ?_, ?_, ?_, rfl, rfl, rfl, rfl, rfl, rfl, rfl, rfl, rfl, rfl, rfl⟩ <;> (intro i hi; rcases h7 i hi with rfl | rfl | rfl | rfl | rfl | rfl | rfl <;> rfl)
theorem Row.c7 {w : World} {g : Nat} {ty : TypeId} {a0 a1 a2 a3 a4 a5 a6 : Value} (h : Row w g ty [a0, a1, a2, a3, a4, a5, a6]) :
    w.cell? ⟨g, 0, none⟩ = some a0 ∧ w.cell? ⟨g, 1, none⟩ = some a1 ∧ w.cell? ⟨g, 2, none⟩ = some a2 ∧ w.cell? ⟨g, 3, none⟩ = some a3 ∧ w.cell? ⟨g, 4, none⟩ = some a4 ∧ w.cell? ⟨g, 5, none⟩ = some a5 ∧ w.cell? ⟨g, 6, none⟩ = some a6 := by
  refine ⟨?_, ?_, ?_, ?_, ?_, ?_, ?_⟩ <;> (rw [h.cellV]; rfl)
set_option maxRecDepth 100000 in
set_option maxHeartbeats 16000000 in
theorem anew (me t v b bt cf : Int) (sa : Option Addr) (sn sc : Nat) (d : List UInt8) (ea : Option Addr) (en ec : Nat) (L0 : List (En × List UInt8)) (w : World) (hm : 0 ≤ me ∧ me ≤ 6) (hb0 : 0 ≤ b ∧ b ≤ 4294967296) (hen : en ≤ 100) (hs : Rd w sa sn sc d) (hsn : sn ≤ 140737488355000) (he : Ents w ea en ec L0) (q : LS) (hq : (⟨b, bt, cf, []⟩ : LS).apps (L0.map pe) = q) :
    Calls Tryz.prog 7 #[.int .i64 me, .agg #[.int .i64 t, .int .i64 v, .int .i64 b, .int .i64 bt, .int .i64 cf, .slice sa sn sc, .slice ea en ec]] w fun x w' => ∃ g p F, x = .returned (.pointer (some ⟨g, 0, none⟩)) ∧ RW w' g p F (fun _ => False) (RS.new me t v b q) ∧ w.heap.size ≤ g ∧ (∀ k, F k → w.heap.size ≤ k) ∧ q.b = b ∧ q.l.length ≤ en ∧ Below w.heap.size w w' := by
  have HS := Lib.hid hs
  have HE := Lib.hid he
  have HQ := Lib.hid hq
  have HSL := Lib.hid hs.hlen
  have HSN := Lib.hid hsn
  have HB0 := Lib.hid hb0
  have HEN := Lib.hid hen
  obtain ⟨hm0, hm6⟩ := hm
  have g1 : ¬ me < 0 := by omega
  have g2 : ¬ (7 ≤ me) := by omega
  clear hs he hq hsn hb0 hen
  go_enter Tryz.func7, Tryz.ntmps7
  go_wp2_with (first
    | (with_reducible refine box_row (o := ⟨some 3, _, _, _, _, _⟩) rfl _ _ rfl [.int .i64 t, .int .i64 v, .int .i64 b, .int .i64 bt, .int .i64 cf, .slice sa sn sc, .slice ea en ec] rfl ?_; intro w1 hr1 hb1 hz1; have R1 := Lib.hid hr1; have B1 := Lib.hid hb1; clear hr1 hb1 hz1))
  have HBX := Lib.hid (show ∀ v', Below w1.heap.size w1 v' → Row v' w.heap.size 25 [.int .i64 t, .int .i64 v, .int .i64 b, .int .i64 bt, .int .i64 cf, .slice sa sn sc, .slice ea en ec] from fun v' hv => R1.out.below hv R1.out.lt)
  refine region_h (fun v => Below w1.heap.size w1 v) (by kernel_rfl) (by kernel_rfl) (Below.refl _ _).drew ?_
  obtain ⟨we, hwe⟩ : ∃ we, w1.drew = we := ⟨_, rfl⟩
  have E0 : Hid (Below w1.heap.size w1 we) := Lib.hid (by rw [← hwe]; exact (Below.refl _ _).drew)
  rw [hwe]
  clear hwe
  (refine h_read 0 rfl (by kernel_rfl) (by kernel_rfl) (h_free rfl) ?_ ?_ ?_; rotate_left; (focus (intro v' hv; go_simp; rfl)); go_simp)
  (refine h_read 1 rfl (by kernel_rfl) (by kernel_rfl) (h_free rfl) ?_ ?_ ?_; rotate_left; (focus (intro v' hv; obtain ⟨y0, y1, y2, y3, y4, y5, y6⟩ := (HBX.out v' hv).c7; go_simp; rfl)); go_simp)
  (refine h_read 2 rfl (by kernel_rfl) (by kernel_rfl) (h_free rfl) ?_ ?_ ?_; rotate_left; (focus (intro v' hv; go_simp; rfl)); go_simp)
  (refine h_read 3 rfl (by kernel_rfl) (by kernel_rfl) (h_free rfl) ?_ ?_ ?_; rotate_left; (focus (intro v' hv; obtain ⟨y0, y1, y2, y3, y4, y5, y6⟩ := (HBX.out v' hv).c7; go_simp; rfl)); go_simp)
  (refine h_read 4 rfl (by kernel_rfl) (by kernel_rfl) (h_free rfl) ?_ ?_ ?_; rotate_left; (focus (intro v' hv; go_simp; rfl)); go_simp)
  (refine h_read 5 rfl (by kernel_rfl) (by kernel_rfl) (h_free rfl) ?_ ?_ ?_; rotate_left; (focus (intro v' hv; go_simp; rfl)); go_simp)
  (refine h_read 6 rfl (by kernel_rfl) (by kernel_rfl) (h_free rfl) ?_ ?_ ?_; rotate_left; (focus (intro v' hv; go_simp; rfl)); go_simp)
  (refine h_read 7 rfl (by kernel_rfl) (by kernel_rfl) (h_free rfl) ?_ ?_ ?_; rotate_left; (focus (intro v' hv; obtain ⟨y0, y1, y2, y3, y4, y5, y6⟩ := (HBX.out v' hv).c7; go_simp; rfl)); go_simp)
  (refine h_read 8 rfl (by kernel_rfl) (by kernel_rfl) (h_free rfl) ?_ ?_ ?_; rotate_left; (focus (intro v' hv; go_simp; rfl)); go_simp)
  (refine h_read 9 rfl (by kernel_rfl) (by kernel_rfl) (h_free rfl) ?_ ?_ ?_; rotate_left; (focus (intro v' hv; obtain ⟨y0, y1, y2, y3, y4, y5, y6⟩ := (HBX.out v' hv).c7; go_simp; rfl)); go_simp)
  (refine h_read 10 rfl (by kernel_rfl) (by kernel_rfl) (h_free rfl) ?_ ?_ ?_; rotate_left; (focus (intro v' hv; go_simp; rfl)); go_simp)
  (refine h_read 11 rfl (by kernel_rfl) (by kernel_rfl) (h_free rfl) ?_ ?_ ?_; rotate_left; (focus (intro v' hv; obtain ⟨y0, y1, y2, y3, y4, y5, y6⟩ := (HBX.out v' hv).c7; go_simp; rfl)); go_simp)
  (refine h_read 12 rfl (by kernel_rfl) (by kernel_rfl) (h_free rfl) ?_ ?_ ?_; rotate_left; (focus (intro v' hv; go_simp; rfl)); go_simp)
  (refine h_read 13 rfl (by kernel_rfl) (by kernel_rfl) (h_free rfl) ?_ ?_ ?_; rotate_left; (focus (intro v' hv; obtain ⟨y0, y1, y2, y3, y4, y5, y6⟩ := (HBX.out v' hv).c7; go_simp; rfl)); go_simp)
  (refine h_read 15 rfl (by kernel_rfl) (by kernel_rfl) (h_free rfl) ?_ ?_ ?_; rotate_left; (focus (intro v' hv; go_simp; rfl)); go_simp)
  (refine h_read 16 rfl (by kernel_rfl) (by kernel_rfl) (h_free rfl) ?_ ?_ ?_; rotate_left; (focus (intro v' hv; obtain ⟨y0, y1, y2, y3, y4, y5, y6⟩ := (HBX.out v' hv).c7; go_simp; rfl)); go_simp)
  (refine h_read 18 rfl (by kernel_rfl) (by kernel_rfl) (h_free rfl) ?_ ?_ ?_; rotate_left; (focus (intro v' hv; go_simp; rfl)); go_simp)
  (refine h_read 19 rfl (by kernel_rfl) (by kernel_rfl) (h_free rfl) ?_ ?_ ?_; rotate_left; (focus (intro v' hv; obtain ⟨y0, y1, y2, y3, y4, y5, y6⟩ := (HBX.out v' hv).c7; go_simp; rfl)); go_simp)
  (refine h_call 14 rfl (by kernel_rfl) (h_free rfl) 20 ?_ ?_ ?_; rotate_left; (focus (go_simp; rfl)))
  refine (qnew b bt cf ea en ec L0 we ((HE.out.mono B1.out).mono E0.out) HB0.out HEN.out).mono ?_
  rw [HQ.out]
  rintro x w5 ⟨p, F, rfl, hg5, hn5, hb5, hF5, hbw5⟩
  have G5 := Lib.hid hg5
  have HQB := Lib.hid hb5
  have HQN := Lib.hid hn5
  have HF5 := Lib.hid hF5
  have E5 := Lib.hid (E0.out.trans (hbw5.mono E0.out.size))
  clear hg5 hn5 hb5 hF5 hbw5
  refine ⟨_, rfl, E5.out, ?_⟩
  go_simp
  (refine h_call 17 rfl (by kernel_rfl) (h_free rfl) 21 ?_ ?_ ?_; rotate_left; (focus (go_simp; rfl)))
  refine (fclone sa sn sc d w5 ((HS.out.mono B1.out).mono (by exact E5.out)) HSN.out).mono ?_
  rintro x w7 ⟨v7, rfl, hf7, hb7⟩
  obtain ⟨a7, c7, hv7, hr7, hk7⟩ := hf7.form3 sn HSL.out
  subst hv7
  have R7 := Lib.hid hr7
  have K7 := Lib.hid hk7
  have G7 := Lib.hid (G5.out.mono hb7)
  have Z7 := Lib.hid hb7.size
  have E7 := Lib.hid (E5.out.trans (hb7.mono E5.out.size))
  clear hf7 hb7 hr7 hk7
  refine ⟨_, rfl, E7.out, ?_⟩
  go_simp
  (refine h_read 20 rfl (by kernel_rfl) (by kernel_rfl) (h_free rfl) ?_ ?_ ?_; rotate_left; (focus (intro v' hv; have qb := raft_built me t v b p a7 sn c7; go_simp; rfl)); go_simp)
  (refine h_list 21 rfl (by kernel_rfl) ?_; intro K hK)
  refine box_row rfl _ _ rfl (newC me t v b p a7 sn c7) (by go_simp; rfl) ?_
  intro w9 hr9 hb9 hz9
  have hp7 := G7.out.lt
  have X9 := Lib.hid (show RW w9 w7.heap.size p F (fun _ => False) (RS.new me t v b q) from ⟨⟨_, a7, sn, c7, d, hr9, new_rc me t v b p a7 sn c7 q, R7.out.mono hb9, fun hn k off e => ⟨fun hk => by have h1 := G5.out.lt k hk; have h2 := K7.out k off e; omega, fun h => h, fun h => by have := (R7.out.blk hn k off e); omega⟩⟩, G7.out.mono hb9, fun hk => absurd (hp7 _ hk) (Nat.lt_irrefl _), ⟨rfl, rfl, rfl⟩⟩)
  have E9 := Lib.hid (E7.out.trans (hb9.mono E7.out.size))
  clear hr9 hb9 hz9
  refine hK _ _ E9.out ?_
  go_simp
  (refine h_read 22 rfl (by kernel_rfl) (by kernel_rfl) (h_free rfl) ?_ ?_ ?_; rotate_left; (focus (intro v' hv; go_simp; rfl)); go_simp)
  refine h_done (by kernel_rfl) ?_
  go_wp2_with fail
  go_ret
  exact ⟨_, _, _, rfl, X9.out, by have := B1.out.size; have := E7.out.size; omega, fun k hk => Nat.le_trans B1.out.size (Nat.le_trans E0.out.size (HF5.out k hk)), HQB.out, HQN.out, B1.out.trans (E9.out.mono B1.out.size)⟩
/-- what View tells -/
def viewC (s : RS) : List Value := [.int .i64 s.term, .int .i64 s.vote, .int .i64 s.role, .int .i64 s.leader, .int .i64 s.commit, .int .i64 s.q.b, .int .i64 s.q.last, .int .i64 (s.q.term s.q.last), .int .i64 (s.q.confAt s.q.last)]
def viewZ : List Value := List.replicate 9 (.int .i64 0)
theorem view_zero : (Tryz.prog.info? 32).map (·.zero) = some (some (.agg viewZ.toArray)) := by kernel_rfl
theorem view_size : (Tryz.prog.info? 32).map (·.size) = some 9 := by kernel_rfl
theorem view_built (a b c d e f g h i : Int) : Tryz.prog.built 32 [(0, .int .i64 a), (1, .int .i64 b), (2, .int .i64 c), (3, .int .i64 d), (4, .int .i64 e), (5, .int .i64 f), (6, .int .i64 g), (7, .int .i64 h), (8, .int .i64 i)] = some [Value.int .i64 a, .int .i64 b, .int .i64 c, .int .i64 d, .int .i64 e, .int .i64 f, .int .i64 g, .int .i64 h, .int .i64 i].toArray := by kernel_rfl
theorem view_one (s : RS) : ∀ v ∈ viewC s, v.oneCell' = true := by
  intro v hv
  simp only [viewC, List.mem_cons, List.not_mem_nil, or_false] at hv
  rcases hv with rfl | rfl | rfl | rfl | rfl | rfl | rfl | rfl | rfl <;> rfl
set_option maxRecDepth 100000 in
set_option maxHeartbeats 16000000 in
theorem aview {w : World} {g p : Nat} {F O : Nat → Prop} {s : RS} (h : RW w g p F O s) :
    Calls Tryz.prog 8 #[.pointer (some ⟨g, 0, none⟩)] w fun x w' => x = .returned (.agg (viewC s).toArray) ∧ Below w.heap.size w w' := by
  have H := Lib.hid h
  have VZ := Lib.hid view_zero
  have VS := Lib.hid view_size
  clear h
  go_enter Tryz.func8, Tryz.ntmps8
  go_wp2_with (first
    | ((with_reducible refine alloc_row (o := ⟨some 2, _, _, _, _, _⟩) rfl _ rfl _ VZ.out ?_); intro w1 hr hb hz; have R1 := Lib.hid hr; have B1 := Lib.hid hb; have H1 := Lib.hid (H.out.mono hb); clear hr hb hz)
    | (go_at_call 22; (with_reducible refine (aready H1.out).mono ?_); rintro x w' ⟨rfl, rfl⟩))
  have hg := H.out.lt
  have HGB := Lib.hid (show ∀ v, Ft (fun k => k = w.heap.size) w1 v → v.heap[g]? = w1.heap[g]? from fun v hv => hv.block g H1.out.lt (fun e => by omega))
  obtain ⟨C3, sa3, sn3, sc3, r3, rc3⟩ := H1.out.cells
  have K0 := Lib.hid (r3.at17 rc3.c0)
  have K1 := Lib.hid (r3.at17 rc3.c1)
  have K26 := Lib.hid (r3.at17 rc3.c26)
  have K28 := Lib.hid (r3.at17 rc3.c28)
  have K29 := Lib.hid (r3.at17 rc3.c29)
  have K30 := Lib.hid (r3.at17 rc3.c30)
  clear r3 rc3 hg
  refine region_h (fun v => Ft (fun k => k = w.heap.size) w1 v) (by kernel_rfl) (by kernel_rfl) (Ft.of_below (Below.refl _ _).drew) ?_
  obtain ⟨we, hwe⟩ : ∃ we, w1.drew = we := ⟨_, rfl⟩
  have E0 : Hid (Below w1.heap.size w1 we) := Lib.hid (by rw [← hwe]; exact (Below.refl _ _).drew)
  rw [hwe]
  clear hwe
  (refine h_read 0 rfl (by kernel_rfl) (by kernel_rfl) (h_free rfl) ?_ ?_ ?_; rotate_left; (focus (intro v hv; go_simp; rfl)); go_simp)
  (refine h_read 1 rfl (by kernel_rfl) (by kernel_rfl) (h_free rfl) ?_ ?_ ?_; rotate_left; (focus (intro v hv; go_simp; rfl)); go_simp)
  (refine h_read 2 rfl (by kernel_rfl) (by kernel_rfl) (h_free rfl) ?_ ?_ ?_; rotate_left; (focus (intro v hv; go_simp; rfl)); go_simp)
  (refine h_read 3 rfl (by kernel_rfl) (by kernel_rfl) (h_free rfl) ?_ ?_ ?_; rotate_left; (focus (intro v hv; go_simp; rfl)); go_simp)
  (refine h_read 4 rfl (by kernel_rfl) (by kernel_rfl) (h_free rfl) ?_ ?_ ?_; rotate_left; (focus (intro v hv; have q0 := (World.cell?_of_block (a := ⟨g, 0, none⟩) (HGB.out v hv)).trans K0.out; have q1 := (World.cell?_of_block (a := ⟨g, 1, none⟩) (HGB.out v hv)).trans K1.out; have q26 := (World.cell?_of_block (a := ⟨g, 26, none⟩) (HGB.out v hv)).trans K26.out; have q28 := (World.cell?_of_block (a := ⟨g, 28, none⟩) (HGB.out v hv)).trans K28.out; have q29 := (World.cell?_of_block (a := ⟨g, 29, none⟩) (HGB.out v hv)).trans K29.out; have q30 := (World.cell?_of_block (a := ⟨g, 30, none⟩) (HGB.out v hv)).trans K30.out; go_simp; rfl)); go_simp)
  (refine h_read 5 rfl (by kernel_rfl) (by kernel_rfl) (h_free rfl) ?_ ?_ ?_; rotate_left; (focus (intro v hv; go_simp; rfl)); go_simp)
  (refine h_read 6 rfl (by kernel_rfl) (by kernel_rfl) (h_free rfl) ?_ ?_ ?_; rotate_left; (focus (intro v hv; go_simp; rfl)); go_simp)
  (refine h_read 7 rfl (by kernel_rfl) (by kernel_rfl) (h_free rfl) ?_ ?_ ?_; rotate_left; (focus (intro v hv; go_simp; rfl)); go_simp)
  (refine h_read 8 rfl (by kernel_rfl) (by kernel_rfl) (h_free rfl) ?_ ?_ ?_; rotate_left; (focus (intro v hv; go_simp; rfl)); go_simp)
  (refine h_read 9 rfl (by kernel_rfl) (by kernel_rfl) (h_free rfl) ?_ ?_ ?_; rotate_left; (focus (intro v hv; have q0 := (World.cell?_of_block (a := ⟨g, 0, none⟩) (HGB.out v hv)).trans K0.out; have q1 := (World.cell?_of_block (a := ⟨g, 1, none⟩) (HGB.out v hv)).trans K1.out; have q26 := (World.cell?_of_block (a := ⟨g, 26, none⟩) (HGB.out v hv)).trans K26.out; have q28 := (World.cell?_of_block (a := ⟨g, 28, none⟩) (HGB.out v hv)).trans K28.out; have q29 := (World.cell?_of_block (a := ⟨g, 29, none⟩) (HGB.out v hv)).trans K29.out; have q30 := (World.cell?_of_block (a := ⟨g, 30, none⟩) (HGB.out v hv)).trans K30.out; go_simp; rfl)); go_simp)
  (refine h_read 10 rfl (by kernel_rfl) (by kernel_rfl) (h_free rfl) ?_ ?_ ?_; rotate_left; (focus (intro v hv; go_simp; rfl)); go_simp)
  (refine h_read 11 rfl (by kernel_rfl) (by kernel_rfl) (h_free rfl) ?_ ?_ ?_; rotate_left; (focus (intro v hv; go_simp; rfl)); go_simp)
  (refine h_read 12 rfl (by kernel_rfl) (by kernel_rfl) (h_free rfl) ?_ ?_ ?_; rotate_left; (focus (intro v hv; go_simp; rfl)); go_simp)
  (refine h_read 13 rfl (by kernel_rfl) (by kernel_rfl) (h_free rfl) ?_ ?_ ?_; rotate_left; (focus (intro v hv; have q0 := (World.cell?_of_block (a := ⟨g, 0, none⟩) (HGB.out v hv)).trans K0.out; have q1 := (World.cell?_of_block (a := ⟨g, 1, none⟩) (HGB.out v hv)).trans K1.out; have q26 := (World.cell?_of_block (a := ⟨g, 26, none⟩) (HGB.out v hv)).trans K26.out; have q28 := (World.cell?_of_block (a := ⟨g, 28, none⟩) (HGB.out v hv)).trans K28.out; have q29 := (World.cell?_of_block (a := ⟨g, 29, none⟩) (HGB.out v hv)).trans K29.out; have q30 := (World.cell?_of_block (a := ⟨g, 30, none⟩) (HGB.out v hv)).trans K30.out; go_simp; rfl)); go_simp)
  (refine h_read 14 rfl (by kernel_rfl) (by kernel_rfl) (h_free rfl) ?_ ?_ ?_; rotate_left; (focus (intro v hv; go_simp; rfl)); go_simp)
  (refine h_read 15 rfl (by kernel_rfl) (by kernel_rfl) (h_free rfl) ?_ ?_ ?_; rotate_left; (focus (intro v hv; go_simp; rfl)); go_simp)
  (refine h_read 16 rfl (by kernel_rfl) (by kernel_rfl) (h_free rfl) ?_ ?_ ?_; rotate_left; (focus (intro v hv; go_simp; rfl)); go_simp)
  (refine h_read 17 rfl (by kernel_rfl) (by kernel_rfl) (h_free rfl) ?_ ?_ ?_; rotate_left; (focus (intro v hv; have q0 := (World.cell?_of_block (a := ⟨g, 0, none⟩) (HGB.out v hv)).trans K0.out; have q1 := (World.cell?_of_block (a := ⟨g, 1, none⟩) (HGB.out v hv)).trans K1.out; have q26 := (World.cell?_of_block (a := ⟨g, 26, none⟩) (HGB.out v hv)).trans K26.out; have q28 := (World.cell?_of_block (a := ⟨g, 28, none⟩) (HGB.out v hv)).trans K28.out; have q29 := (World.cell?_of_block (a := ⟨g, 29, none⟩) (HGB.out v hv)).trans K29.out; have q30 := (World.cell?_of_block (a := ⟨g, 30, none⟩) (HGB.out v hv)).trans K30.out; go_simp; rfl)); go_simp)
  (refine h_read 18 rfl (by kernel_rfl) (by kernel_rfl) (h_free rfl) ?_ ?_ ?_; rotate_left; (focus (intro v hv; go_simp; rfl)); go_simp)
  (refine h_read 19 rfl (by kernel_rfl) (by kernel_rfl) (h_free rfl) ?_ ?_ ?_; rotate_left; (focus (intro v hv; go_simp; rfl)); go_simp)
  (refine h_read 20 rfl (by kernel_rfl) (by kernel_rfl) (h_free rfl) ?_ ?_ ?_; rotate_left; (focus (intro v hv; go_simp; rfl)); go_simp)
  (refine h_read 21 rfl (by kernel_rfl) (by kernel_rfl) (h_free rfl) ?_ ?_ ?_; rotate_left; (focus (intro v hv; have q0 := (World.cell?_of_block (a := ⟨g, 0, none⟩) (HGB.out v hv)).trans K0.out; have q1 := (World.cell?_of_block (a := ⟨g, 1, none⟩) (HGB.out v hv)).trans K1.out; have q26 := (World.cell?_of_block (a := ⟨g, 26, none⟩) (HGB.out v hv)).trans K26.out; have q28 := (World.cell?_of_block (a := ⟨g, 28, none⟩) (HGB.out v hv)).trans K28.out; have q29 := (World.cell?_of_block (a := ⟨g, 29, none⟩) (HGB.out v hv)).trans K29.out; have q30 := (World.cell?_of_block (a := ⟨g, 30, none⟩) (HGB.out v hv)).trans K30.out; go_simp; rfl)); go_simp)
  (refine h_read 22 rfl (by kernel_rfl) (by kernel_rfl) (h_free rfl) ?_ ?_ ?_; rotate_left; (focus (intro v hv; go_simp; rfl)); go_simp)
  (refine h_read 23 rfl (by kernel_rfl) (by kernel_rfl) (h_free rfl) ?_ ?_ ?_; rotate_left; (focus (intro v hv; go_simp; rfl)); go_simp)
  (refine h_read 24 rfl (by kernel_rfl) (by kernel_rfl) (h_free rfl) ?_ ?_ ?_; rotate_left; (focus (intro v hv; go_simp; rfl)); go_simp)
  (refine h_read 25 rfl (by kernel_rfl) (by kernel_rfl) (h_free rfl) ?_ ?_ ?_; rotate_left; (focus (intro v hv; have q0 := (World.cell?_of_block (a := ⟨g, 0, none⟩) (HGB.out v hv)).trans K0.out; have q1 := (World.cell?_of_block (a := ⟨g, 1, none⟩) (HGB.out v hv)).trans K1.out; have q26 := (World.cell?_of_block (a := ⟨g, 26, none⟩) (HGB.out v hv)).trans K26.out; have q28 := (World.cell?_of_block (a := ⟨g, 28, none⟩) (HGB.out v hv)).trans K28.out; have q29 := (World.cell?_of_block (a := ⟨g, 29, none⟩) (HGB.out v hv)).trans K29.out; have q30 := (World.cell?_of_block (a := ⟨g, 30, none⟩) (HGB.out v hv)).trans K30.out; go_simp; rfl)); go_simp)
  (refine h_read 27 rfl (by kernel_rfl) (by kernel_rfl) (h_free rfl) ?_ ?_ ?_; rotate_left; (focus (intro v hv; go_simp; rfl)); go_simp)
  (refine h_read 28 rfl (by kernel_rfl) (by kernel_rfl) (h_free rfl) ?_ ?_ ?_; rotate_left; (focus (intro v hv; go_simp; rfl)); go_simp)
  (refine h_read 29 rfl (by kernel_rfl) (by kernel_rfl) (h_free rfl) ?_ ?_ ?_; rotate_left; (focus (intro v hv; go_simp; rfl)); go_simp)
  (refine h_read 30 rfl (by kernel_rfl) (by kernel_rfl) (h_free rfl) ?_ ?_ ?_; rotate_left; (focus (intro v hv; have q0 := (World.cell?_of_block (a := ⟨g, 0, none⟩) (HGB.out v hv)).trans K0.out; have q1 := (World.cell?_of_block (a := ⟨g, 1, none⟩) (HGB.out v hv)).trans K1.out; have q26 := (World.cell?_of_block (a := ⟨g, 26, none⟩) (HGB.out v hv)).trans K26.out; have q28 := (World.cell?_of_block (a := ⟨g, 28, none⟩) (HGB.out v hv)).trans K28.out; have q29 := (World.cell?_of_block (a := ⟨g, 29, none⟩) (HGB.out v hv)).trans K29.out; have q30 := (World.cell?_of_block (a := ⟨g, 30, none⟩) (HGB.out v hv)).trans K30.out; go_simp; rfl)); go_simp)
  (refine h_read 32 rfl (by kernel_rfl) (by kernel_rfl) (h_free rfl) ?_ ?_ ?_; rotate_left; (focus (intro v hv; go_simp; rfl)); go_simp)
  (refine h_read 33 rfl (by kernel_rfl) (by kernel_rfl) (h_free rfl) ?_ ?_ ?_; rotate_left; (focus (intro v hv; go_simp; rfl)); go_simp)
  (refine h_read 34 rfl (by kernel_rfl) (by kernel_rfl) (h_free rfl) ?_ ?_ ?_; rotate_left; (focus (intro v hv; go_simp; rfl)); go_simp)
  (refine h_read 35 rfl (by kernel_rfl) (by kernel_rfl) (h_free rfl) ?_ ?_ ?_; rotate_left; (focus (intro v hv; have q0 := (World.cell?_of_block (a := ⟨g, 0, none⟩) (HGB.out v hv)).trans K0.out; have q1 := (World.cell?_of_block (a := ⟨g, 1, none⟩) (HGB.out v hv)).trans K1.out; have q26 := (World.cell?_of_block (a := ⟨g, 26, none⟩) (HGB.out v hv)).trans K26.out; have q28 := (World.cell?_of_block (a := ⟨g, 28, none⟩) (HGB.out v hv)).trans K28.out; have q29 := (World.cell?_of_block (a := ⟨g, 29, none⟩) (HGB.out v hv)).trans K29.out; have q30 := (World.cell?_of_block (a := ⟨g, 30, none⟩) (HGB.out v hv)).trans K30.out; go_simp; rfl)); go_simp)
  (refine h_read 37 rfl (by kernel_rfl) (by kernel_rfl) (h_free rfl) ?_ ?_ ?_; rotate_left; (focus (intro v hv; go_simp; rfl)); go_simp)
  (refine h_read 38 rfl (by kernel_rfl) (by kernel_rfl) (h_free rfl) ?_ ?_ ?_; rotate_left; (focus (intro v hv; go_simp; rfl)); go_simp)
  (refine h_read 39 rfl (by kernel_rfl) (by kernel_rfl) (h_free rfl) ?_ ?_ ?_; rotate_left; (focus (intro v hv; go_simp; rfl)); go_simp)
  (refine h_read 40 rfl (by kernel_rfl) (by kernel_rfl) (h_free rfl) ?_ ?_ ?_; rotate_left; (focus (intro v hv; have q0 := (World.cell?_of_block (a := ⟨g, 0, none⟩) (HGB.out v hv)).trans K0.out; have q1 := (World.cell?_of_block (a := ⟨g, 1, none⟩) (HGB.out v hv)).trans K1.out; have q26 := (World.cell?_of_block (a := ⟨g, 26, none⟩) (HGB.out v hv)).trans K26.out; have q28 := (World.cell?_of_block (a := ⟨g, 28, none⟩) (HGB.out v hv)).trans K28.out; have q29 := (World.cell?_of_block (a := ⟨g, 29, none⟩) (HGB.out v hv)).trans K29.out; have q30 := (World.cell?_of_block (a := ⟨g, 30, none⟩) (HGB.out v hv)).trans K30.out; go_simp; rfl)); go_simp)
  (refine h_call 26 rfl (by kernel_rfl) (h_free rfl) 23 ?_ ?_ ?_; rotate_left; (focus (go_simp; rfl)))
  refine (qbase (H1.out.mono E0.out).log).mono ?_
  rintro x x1 ⟨rfl, hb⟩
  have X1 := Lib.hid (E0.out.trans (hb.mono E0.out.size))
  clear hb
  refine ⟨_, rfl, Ft.of_below X1.out, ?_⟩
  go_simp
  (refine h_call 31 rfl (by kernel_rfl) (h_free rfl) 24 ?_ ?_ ?_; rotate_left; (focus (go_simp; rfl)))
  refine (qlast (H1.out.mono X1.out).log).mono ?_
  rintro x x2 ⟨rfl, hb⟩
  have X2 := Lib.hid (X1.out.trans (hb.mono X1.out.size))
  clear hb
  refine ⟨_, rfl, Ft.of_below X2.out, ?_⟩
  go_simp
  (refine h_call 36 rfl (by kernel_rfl) (h_free rfl) 25 ?_ ?_ ?_; rotate_left; (focus (go_simp; rfl)))
  refine (qlastT (H1.out.mono X2.out).log).mono ?_
  rintro x x3 ⟨rfl, hb⟩
  have X3 := Lib.hid (X2.out.trans (hb.mono X2.out.size))
  clear hb
  refine ⟨_, rfl, Ft.of_below X3.out, ?_⟩
  go_simp
  (refine h_call 41 rfl (by kernel_rfl) (h_free rfl) 26 ?_ ?_ ?_; rotate_left; (focus (go_simp; rfl)))
  refine (qconf (H1.out.mono X3.out).log).mono ?_
  rintro x x4 ⟨rfl, hb⟩
  have X4 := Lib.hid (X3.out.trans (hb.mono X3.out.size))
  clear hb
  refine ⟨_, rfl, Ft.of_below X4.out, ?_⟩
  go_simp
  (refine h_read 42 rfl (by kernel_rfl) (by kernel_rfl) (h_free rfl) ?_ ?_ ?_; rotate_left; (focus (intro v hv; have qb := view_built s.term s.vote s.role s.leader s.commit s.q.b s.q.last (s.q.term s.q.last) (s.q.confAt s.q.last); go_simp; rfl)); go_simp)
  (refine h_list 43 rfl (by kernel_rfl) ?_; intro K hK)
  refine store_row rfl _ _ _ rfl w.heap.size (viewC s) (by go_simp) (by go_simp; rfl) 32 _ (R1.out.below X4.out R1.out.lt) view_size rfl (view_one s) ?_
  intro wz hr hu
  have RZ := Lib.hid hr
  have BZ := Lib.hid ((B1.out.trans (X4.out.mono B1.out.size)).trans (hu.below (Nat.le_refl _)))
  refine hK _ _ ((Ft.of_below X4.out).trans (Ft.of_upd hu rfl)) ?_
  clear hr hu
  go_simp
  refine h_done (by kernel_rfl) ?_
  go_wp2_with fail
  exact bodyPost_ret (results_cell_row rfl _ _ w.heap.size 32 _ _ _ (by go_simp) RZ.out Tryz.underlying32 rfl VS.out) rfl ⟨rfl, BZ.out⟩
end Go.Proofs.YtjkkopbhdeljmaaGreat.W

namespace Go.Proofs.YtjkkopbhdeljmaaGreat.W
open Go Go.ChangeShapes Go.WideShapes Go.ChangeAt Go.RowKit

def outZ : List Value := [.slice none 0 0, .slice none 0 0, .bool false]
theorem outZ_zero : (Tryz.prog.info? 42).map (·.zero) = some (some (.agg outZ.toArray)) := by kernel_rfl
theorem outZ_built : Tryz.prog.built 42 [] = some outZ.toArray := by kernel_rfl
theorem outZ_one : ∀ v ∈ outZ, v.oneCell' = true := by decide
theorem out_f0 (w : World) : (Instr.field 42 (.agg #[Value.slice none 0 0, .slice none 0 0, .bool false]) 0).run Tryz.prog w = .ok (.slice none 0 0) w := by
  simp [Instr.field, run_underlying Tryz.underlying42, asAgg, part, isAgg, run_underlying Tryz.underlying39]
theorem out_f1 (w : World) : (Instr.field 42 (.agg #[Value.slice none 0 0, .slice none 0 0, .bool false]) 1).run Tryz.prog w = .ok (.slice none 0 0) w := by
  simp [Instr.field, run_underlying Tryz.underlying42, asAgg, part, isAgg, run_underlying Tryz.underlying40]
theorem viewZ_built : Tryz.prog.built 32 [] = some viewZ.toArray := by kernel_rfl
theorem viewZ_one : ∀ v ∈ viewZ, v.oneCell' = true := by decide
def raftZ : List Value := List.replicate 24 (Value.int .i64 0) ++ ([.slice none 0 0, .int .i64 0, .pointer none, .slice none 0 0] ++ List.replicate 6 (Value.int .i64 0))
theorem raftZ_zero : (Tryz.prog.info? 59).map (·.zero) = some (some (.agg raftZ.toArray)) := by kernel_rfl
theorem results_t2c {P : Program} {fn : Func} {a b p : Tmp} {ty : TypeId} (h : fn.results = #[.tmp a, .tmp b, .cell p ty]) (tmps : Array Value) (w : World) (g : Nat) (t : TypeId) (cs : Array Value) (fr : Nat × Nat) (d : TypeDesc)
    (hp : tmps.getD p undef = .pointer (some ⟨g, 0, none⟩)) (hg : w.heap[g]? = some (.cells cs t fr))
    (hu : P.underlying ty = some d) (hd : (match d with | .struct _ | .array _ _ => true | _ => false) = true) (hi : (P.info? ty).map (·.size) = some cs.size) :
    (results fn tmps).run P w = .ok (.tuple #[tmps.getD a undef, tmps.getD b undef, .agg cs]) w := by
  have hp' : tmps[p]?.getD undef = .pointer (some ⟨g, 0, none⟩) := by simpa using hp
  simp [results, h, hp', asAddr, run_loadVar_row w g t ty cs fr d hg hu hd hi]
theorem results_t3c {P : Program} {fn : Func} {a b c p : Tmp} {ty : TypeId} (h : fn.results = #[.tmp a, .tmp b, .tmp c, .cell p ty]) (tmps : Array Value) (w : World) (g : Nat) (t : TypeId) (cs : Array Value) (fr : Nat × Nat) (d : TypeDesc)
    (hp : tmps.getD p undef = .pointer (some ⟨g, 0, none⟩)) (hg : w.heap[g]? = some (.cells cs t fr))
    (hu : P.underlying ty = some d) (hd : (match d with | .struct _ | .array _ _ => true | _ => false) = true) (hi : (P.info? ty).map (·.size) = some cs.size) :
    (results fn tmps).run P w = .ok (.tuple #[tmps.getD a undef, tmps.getD b undef, tmps.getD c undef, .agg cs]) w := by
  have hp' : tmps[p]?.getD undef = .pointer (some ⟨g, 0, none⟩) := by simpa using hp
  simp [results, h, hp', asAddr, run_loadVar_row w g t ty cs fr d hg hu hd hi]
/-- a node that no call made -/
def NoR (w : World) (v : Value) : Prop := v = .pointer none ∨ ∃ g, v = .pointer (some ⟨g, 0, none⟩) ∧ Row w g 59 raftZ
theorem NoR.mono {w w' : World} {v : Value} (h : NoR w v) (hb : Below w.heap.size w w') : NoR w' v := by
  rcases h with h | ⟨g, h, hr⟩
  · exact .inl h
  · exact .inr ⟨g, h, hr.below hb hr.lt⟩
set_option maxRecDepth 100000 in
set_option maxHeartbeats 4000000 in
theorem aready_no {w : World} {v : Value} (h : NoR w v) : Calls Tryz.prog 22 #[v] w fun x w' => x = .returned (.bool false) ∧ w = w' := by
  rcases h with rfl | ⟨g, rfl, hr⟩
  · go_enter Tryz.func22, Tryz.ntmps22
    go_wp2_with fail
    go_ret
    exact ⟨rfl, rfl⟩
  · have c26 : w.cell? ⟨g, 26, none⟩ = some (.pointer none) := hr.at17 rfl
    clear hr
    go_enter Tryz.func22, Tryz.ntmps22
    go_wp2_with fail
    go_ret
    exact ⟨rfl, rfl⟩
set_option maxRecDepth 100000 in
set_option maxHeartbeats 4000000 in
theorem aconf_no {w : World} {v : Value} (h : NoR w v) : Calls Tryz.prog 19 #[v] w fun x w' => x = .returned (.int .i64 0) ∧ w = w' := by
  have H := Lib.hid h
  clear h
  go_enter Tryz.func19, Tryz.ntmps19
  go_wp2_with (go_at_call 22; (with_reducible refine (aready_no H.out).mono ?_); rintro x w' ⟨rfl, rfl⟩)
  go_ret
  exact ⟨rfl, rfl⟩
set_option maxRecDepth 100000 in
set_option maxHeartbeats 4000000 in
theorem acommitted_no {w : World} {v : Value} (n : Int) (h : NoR w v) : Calls Tryz.prog 18 #[v, .int .i64 n] w fun x w' => x = .returned (.slice none 0 0) ∧ w = w' := by
  have H := Lib.hid h
  clear h
  go_enter Tryz.func18, Tryz.ntmps18
  go_wp2_with (go_at_call 22; (with_reducible refine (aready_no H.out).mono ?_); rintro x w' ⟨rfl, rfl⟩)
  go_ret
  exact ⟨rfl, rfl⟩
set_option maxRecDepth 100000 in
set_option maxHeartbeats 4000000 in
theorem areads_no {w : World} {v : Value} (h : NoR w v) : Calls Tryz.prog 17 #[v] w fun x w' => x = .returned (.slice none 0 0) ∧ w = w' := by
  have H := Lib.hid h
  clear h
  go_enter Tryz.func17, Tryz.ntmps17
  go_wp2_with (go_at_call 22; (with_reducible refine (aready_no H.out).mono ?_); rintro x w' ⟨rfl, rfl⟩)
  go_ret
  exact ⟨rfl, rfl⟩
set_option maxRecDepth 100000 in
set_option maxHeartbeats 4000000 in
theorem acompact_no {w : World} {v : Value} (n : Int) (a : Option Addr) (bn bc : Nat) (h : NoR w v) : Calls Tryz.prog 16 #[v, .int .i64 n, .slice a bn bc] w fun x w' => x = .returned (.int .i64 2) ∧ w = w' := by
  have H := Lib.hid h
  clear h
  go_enter Tryz.func16, Tryz.ntmps16
  go_wp2_with (go_at_call 22; (with_reducible refine (aready_no H.out).mono ?_); rintro x w' ⟨rfl, rfl⟩)
  go_ret
  exact ⟨rfl, rfl⟩
set_option maxRecDepth 100000 in
set_option maxHeartbeats 4000000 in
theorem aproposable_no {w : World} {v : Value} (n : Int) (a : Option Addr) (bn bc : Nat) (h : NoR w v) : Calls Tryz.prog 41 #[v, .int .i64 n, .slice a bn bc] w fun x w' => x = .returned (.int .i64 2) ∧ w = w' := by
  have H := Lib.hid h
  clear h
  go_enter Tryz.func41, Tryz.ntmps41
  go_wp2_with (go_at_call 22; (with_reducible refine (aready_no H.out).mono ?_); rintro x w' ⟨rfl, rfl⟩)
  go_ret
  exact ⟨rfl, rfl⟩
set_option maxRecDepth 100000 in
set_option maxHeartbeats 8000000 in
theorem aview_no {w : World} {v : Value} (h : NoR w v) : Calls Tryz.prog 8 #[v] w fun x w' => x = .returned (.agg #[Value.int .i64 0, .int .i64 0, .int .i64 0, .int .i64 0, .int .i64 0, .int .i64 0, .int .i64 0, .int .i64 0, .int .i64 0]) ∧ Below w.heap.size w w' := by
  have H := Lib.hid h
  have VZ := Lib.hid view_zero
  have VS := Lib.hid view_size
  clear h
  go_enter Tryz.func8, Tryz.ntmps8
  go_wp2_with (first
    | ((with_reducible refine alloc_row (o := ⟨some 2, _, _, _, _, _⟩) rfl _ rfl _ VZ.out ?_); intro w1 hr hb hz; have R1 := Lib.hid hr; have B1 := Lib.hid hb; have H1 := Lib.hid (H.out.mono hb); clear hr hb hz)
    | (go_at_call 22; (with_reducible refine (aready_no H1.out).mono ?_); rintro x w' ⟨rfl, rfl⟩)
    | ((with_reducible refine build_row (o := ⟨some 6, _, _, _, _, _⟩) rfl _ _ rfl viewZ ?_ ?_); (focus (go_simp; exact viewZ_built)))
    | ((with_reducible refine store_row (o := ⟨none, _, _, _, _, _⟩) rfl _ (.tmp 2) _ rfl w.heap.size viewZ ?_ ?_ 32 _ R1.out ?_ ?_ ?_ ?_); (focus go_simp); (focus (first | (go_simp; done) | (go_simp; rfl))); (focus (exact VS.out)); (focus rfl); (focus (exact viewZ_one)); intro wz hr hu; have RZ := Lib.hid hr; have BZ := Lib.hid (B1.out.trans (hu.below (Nat.le_refl _))); clear hr hu))
  exact bodyPost_ret (results_cell_row rfl _ _ w.heap.size 32 _ _ _ (by go_simp) RZ.out Tryz.underlying32 rfl VS.out) rfl ⟨rfl, BZ.out⟩
set_option maxRecDepth 100000 in
set_option maxHeartbeats 8000000 in
theorem atick_no {w : World} {v : Value} (h : NoR w v) : Calls Tryz.prog 10 #[v] w fun x w' => x = .returned (.agg #[Value.slice none 0 0, .slice none 0 0, .bool false]) ∧ Below w.heap.size w w' := by
  have H := Lib.hid h
  have OZ := Lib.hid outZ_zero
  have OS := Lib.hid out_size
  clear h
  go_enter Tryz.func10, Tryz.ntmps10
  go_wp2_with (first
    | ((with_reducible refine alloc_row (o := ⟨some 2, _, _, _, _, _⟩) rfl _ rfl _ OZ.out ?_); intro w1 hr hb hz; have R1 := Lib.hid hr; have B1 := Lib.hid hb; have H1 := Lib.hid (H.out.mono hb); clear hr hb hz)
    | ((with_reducible refine alloc_row (o := ⟨some 3, _, _, _, _, _⟩) rfl _ rfl _ OZ.out ?_); intro w2 hr hb hz; have R2 := Lib.hid hr; have Q2 := Lib.hid (R1.out.below hb R1.out.lt); have B2 := Lib.hid (B1.out.trans (hb.mono B1.out.size)); have H2 := Lib.hid (H1.out.mono hb); clear hr hb hz)
    | (go_at_call 22; (with_reducible refine (aready_no H2.out).mono ?_); rintro x w' ⟨rfl, rfl⟩)
    | ((with_reducible refine load_row (o := ⟨some 7, _, _, _, _, _⟩) rfl _ _ rfl w1.heap.size ?_ _ outZ _ R2.out Tryz.underlying42 rfl ?_ ?_); (focus go_simp); (focus (exact OS.out)))
    | ((with_reducible refine store_row (o := ⟨none, _, _, _, _, _⟩) rfl _ (.tmp 2) _ rfl w.heap.size outZ ?_ ?_ 42 _ Q2.out ?_ ?_ ?_ ?_); (focus go_simp); (focus (first | (go_simp; done) | (go_simp; rfl))); (focus (exact OS.out)); (focus rfl); (focus (exact outZ_one)); intro wz hr hu; have RZ := Lib.hid hr; have BZ := Lib.hid (B2.out.trans (hu.below (Nat.le_refl _))); clear hr hu))
  exact bodyPost_ret (results_cell_row rfl _ _ w.heap.size 42 _ _ _ (by go_simp) RZ.out Tryz.underlying42 rfl OS.out) rfl ⟨rfl, BZ.out⟩
set_option maxRecDepth 100000 in
set_option maxHeartbeats 8000000 in
theorem apropose_no {w : World} {v : Value} (n : Int) (a : Option Addr) (bn bc : Nat) (h : NoR w v) : Calls Tryz.prog 13 #[v, .int .i64 n, .slice a bn bc] w fun x w' => x = .returned (.tuple #[.int .i64 0, .int .i64 0, .int .i64 2, .agg outZ.toArray]) ∧ Below w.heap.size w w' := by
  have H := Lib.hid h
  have OZ := Lib.hid outZ_zero
  have OS := Lib.hid out_size
  clear h
  go_enter Tryz.func13, Tryz.ntmps13
  go_wp2_with (first
    | ((with_reducible refine alloc_row (o := ⟨some 9, _, _, _, _, _⟩) rfl _ rfl _ OZ.out ?_); intro w1 hr hb hz; have R1 := Lib.hid hr; have B1 := Lib.hid hb; have H1 := Lib.hid (H.out.mono hb); clear hr hb hz)
    | ((with_reducible refine alloc_row (o := ⟨some 10, _, _, _, _, _⟩) rfl _ rfl _ OZ.out ?_); intro w2 hr hb hz; have Q2 := Lib.hid (R1.out.below hb R1.out.lt); have B2 := Lib.hid (B1.out.trans (hb.mono B1.out.size)); have H2 := Lib.hid (H1.out.mono hb); clear hr hb hz)
    | (go_at_call 41; (with_reducible refine (aproposable_no n a bn bc H2.out).mono ?_); rintro x w' ⟨rfl, rfl⟩)
    | ((with_reducible refine build_row (o := ⟨some 25, _, _, _, _, _⟩) rfl _ _ rfl outZ ?_ ?_); (focus (go_simp; exact outZ_built)))
    | ((with_reducible refine store_row (o := ⟨none, _, _, _, _, _⟩) rfl _ (.tmp 9) _ rfl w.heap.size outZ ?_ ?_ 42 _ Q2.out ?_ ?_ ?_ ?_); (focus go_simp); (focus (first | (go_simp; done) | (go_simp; rfl))); (focus (exact OS.out)); (focus rfl); (focus (exact outZ_one)); intro wz hr hu; have RZ := Lib.hid hr; have BZ := Lib.hid (B2.out.trans (hu.below (Nat.le_refl _))); clear hr hu))
  exact bodyPost_ret (results_t3c rfl _ _ w.heap.size 42 _ _ _ (by go_simp) RZ.out Tryz.underlying42 rfl OS.out) rfl ⟨by go_simp, BZ.out⟩
set_option maxRecDepth 100000 in
set_option maxHeartbeats 8000000 in
theorem aread_no {w : World} {v : Value} (h : NoR w v) : Calls Tryz.prog 15 #[v] w fun x w' => x = .returned (.tuple #[.int .i64 0, .int .i64 2, .agg outZ.toArray]) ∧ Below w.heap.size w w' := by
  have H := Lib.hid h
  have OZ := Lib.hid outZ_zero
  have OS := Lib.hid out_size
  clear h
  go_enter Tryz.func15, Tryz.ntmps15
  go_wp2_with (first
    | ((with_reducible refine alloc_row (o := ⟨some 4, _, _, _, _, _⟩) rfl _ rfl _ OZ.out ?_); intro w1 hr hb hz; have R1 := Lib.hid hr; have B1 := Lib.hid hb; have H1 := Lib.hid (H.out.mono hb); clear hr hb hz)
    | ((with_reducible refine alloc_row (o := ⟨some 5, _, _, _, _, _⟩) rfl _ rfl _ OZ.out ?_); intro w2 hr hb hz; have R2 := Lib.hid hr; have Q2 := Lib.hid (R1.out.below hb R1.out.lt); have B2 := Lib.hid (B1.out.trans (hb.mono B1.out.size)); have H2 := Lib.hid (H1.out.mono hb); clear hr hb hz)
    | (go_at_call 22; (with_reducible refine (aready_no H2.out).mono ?_); rintro x w' ⟨rfl, rfl⟩))
  have D2 : Hid (Below w2.heap.size w2 w2.drew) := Lib.hid (Below.refl _ _).drew
  have HOB := Lib.hid (show ∀ v', Below w2.heap.size w2 v' → Row v' w1.heap.size 42 outZ from fun v' hv => R2.out.below hv R2.out.lt)
  refine region_t (fun v => Below w2.heap.size w2 v) 3 (by kernel_rfl) (by kernel_rfl) (by kernel_rfl) D2.out ?_
  obtain ⟨we, hwe⟩ : ∃ we, w2.drew = we := ⟨_, rfl⟩
  rw [hwe] at D2 ⊢
  clear hwe
  (refine t_read 0 rfl (by kernel_rfl) (by kernel_rfl) (by kernel_rfl) (t_free rfl) ?_ ?_ ?_; rotate_left; (focus (intro v hv; refine load_all 42 (.tmp 5) ?_ w1.heap.size ?_ _ outZ _ (HOB.out v hv) Tryz.underlying42 rfl out_size; (focus rfl); go_simp)); go_simp)
  (refine t_read 1 rfl (by kernel_rfl) (by kernel_rfl) (by kernel_rfl) (t_free rfl) ?_ ?_ ?_; rotate_left; (focus (intro v hv; go_simp; rfl)); go_simp)
  (refine t_read 2 rfl (by kernel_rfl) (by kernel_rfl) (by kernel_rfl) (t_free rfl) ?_ ?_ ?_; rotate_left; (focus (intro v hv; go_simp; rfl)); go_simp)
  (refine t_last 3 rfl (by kernel_rfl) rfl (by kernel_rfl) (by kernel_rfl) ?_; intro K hK)
  have Q3 := Q2.out.below D2.out Q2.out.lt
  refine store_row rfl _ _ _ rfl w.heap.size outZ (by go_simp) (by go_simp) 42 _ Q3 out_size rfl outZ_one ?_
  intro wz hr hu
  have RZ := Lib.hid hr
  have BZ := Lib.hid ((B2.out.trans (D2.out.mono B2.out.size)).trans (hu.below (Nat.le_refl _)))
  refine hK _ _ ?_
  clear hr hu Q3
  go_simp
  go_wp2_with fail
  exact bodyPost_ret (results_t2c rfl _ _ w.heap.size 42 _ _ _ (by go_simp) RZ.out Tryz.underlying42 rfl OS.out) rfl ⟨by go_simp, BZ.out⟩
set_option maxRecDepth 100000 in
set_option maxHeartbeats 8000000 in
theorem atake_no {w : World} {v : Value} (C : List Value) (h : NoR w v) : Calls Tryz.prog 11 #[v, .agg C.toArray] w fun x w' => x = .returned (.agg #[Value.slice none 0 0, .slice none 0 0, .bool false]) ∧ Below w.heap.size w w' := by
  have H := Lib.hid h
  have OZ := Lib.hid outZ_zero
  have OS := Lib.hid out_size
  clear h
  go_enter Tryz.func11, Tryz.ntmps11
  go_wp2_with (first
    | (with_reducible refine box_row (o := ⟨some 3, _, _, _, _, _⟩) rfl _ _ rfl C rfl ?_; intro w0 hr1 hb1 hz1; have B0 := Lib.hid hb1; have H0 := Lib.hid (H.out.mono hb1); clear hr1 hb1 hz1)
    | ((with_reducible refine alloc_row (o := ⟨some 4, _, _, _, _, _⟩) rfl _ rfl _ OZ.out ?_); intro w1 hr hb hz; have R1 := Lib.hid hr; have B1 := Lib.hid (B0.out.trans (hb.mono B0.out.size)); have H1 := Lib.hid (H0.out.mono hb); clear hr hb hz)
    | ((with_reducible refine alloc_row (o := ⟨some 5, _, _, _, _, _⟩) rfl _ rfl _ OZ.out ?_); intro w2 hr hb hz; have R2 := Lib.hid hr; have Q2 := Lib.hid (R1.out.below hb R1.out.lt); have B2 := Lib.hid (B1.out.trans (hb.mono B1.out.size)); have H2 := Lib.hid (H1.out.mono hb); clear hr hb hz))
  have BL := Lib.hid B0.out.size
  refine region_h (fun v => Below w2.heap.size w2 v) (by kernel_rfl) (by kernel_rfl) (Below.refl _ _).drew ?_
  obtain ⟨we, hwe⟩ : ∃ we, w2.drew = we := ⟨_, rfl⟩
  have D2 : Hid (Below w2.heap.size w2 we) := Lib.hid (by rw [← hwe]; exact (Below.refl _ _).drew)
  rw [hwe]
  clear hwe
  (refine h_read 0 rfl (by kernel_rfl) (by kernel_rfl) (h_free rfl) ?_ ?_ ?_; rotate_left; (focus (intro v hv; go_simp; rfl)); go_simp)
  (refine h_call 1 rfl (by kernel_rfl) (h_free rfl) 22 ?_ ?_ ?_; rotate_left; (focus (go_simp; rfl)))
  refine (aready_no (H2.out.mono D2.out)).mono ?_
  rintro x w' ⟨rfl, rfl⟩
  refine ⟨_, rfl, D2.out, ?_⟩
  go_simp
  (refine h_read 2 rfl (by kernel_rfl) (by kernel_rfl) (h_free rfl) ?_ ?_ ?_; rotate_left; (focus (intro v hv; go_simp; rfl)); go_simp)
  (refine h_read 3 rfl (by kernel_rfl) (by kernel_rfl) (h_free rfl) ?_ ?_ ?_; rotate_left; (focus (intro v hv; go_simp; rfl)); go_simp)
  (refine h_skip 4 rfl (by kernel_rfl) (by kernel_rfl) ?_ ?_; (focus (go_simp; first | done | (intro h; cases h) | simp)); go_simp)
  (refine h_skip 5 rfl (by kernel_rfl) (by kernel_rfl) ?_ ?_; (focus (go_simp; first | done | (intro h; cases h) | simp)); go_simp)
  (refine h_skip 6 rfl (by kernel_rfl) (by kernel_rfl) ?_ ?_; (focus (go_simp; first | done | (intro h; cases h) | simp)); go_simp)
  (refine h_read 7 rfl (by kernel_rfl) (by kernel_rfl) (h_free rfl) ?_ ?_ ?_; rotate_left; (focus (intro v hv; go_simp; rfl)); go_simp)
  (refine h_read 8 rfl (by kernel_rfl) (by kernel_rfl) (h_free rfl) ?_ ?_ ?_; rotate_left; (focus (intro v hv; go_simp; rfl)); go_simp)
  (refine h_skip 9 rfl (by kernel_rfl) (by kernel_rfl) ?_ ?_; (focus (go_simp; first | done | (intro h; cases h) | simp)); go_simp)
  (refine h_skip 10 rfl (by kernel_rfl) (by kernel_rfl) ?_ ?_; (focus (go_simp; first | done | (intro h; cases h) | simp)); go_simp)
  (refine h_skip 11 rfl (by kernel_rfl) (by kernel_rfl) ?_ ?_; (focus (go_simp; first | done | (intro h; cases h) | simp)); go_simp)
  (refine h_skip 12 rfl (by kernel_rfl) (by kernel_rfl) ?_ ?_; (focus (go_simp; first | done | (intro h; cases h) | simp)); go_simp)
  (refine h_skip 13 rfl (by kernel_rfl) (by kernel_rfl) ?_ ?_; (focus (go_simp; first | done | (intro h; cases h) | simp)); go_simp)
  (refine h_skip 14 rfl (by kernel_rfl) (by kernel_rfl) ?_ ?_; (focus (go_simp; first | done | (intro h; cases h) | simp)); go_simp)
  (refine h_skip 15 rfl (by kernel_rfl) (by kernel_rfl) ?_ ?_; (focus (go_simp; first | done | (intro h; cases h) | simp)); go_simp)
  (refine h_read 16 rfl (by kernel_rfl) (by kernel_rfl) (h_free rfl) ?_ ?_ ?_; rotate_left; (focus (intro v hv; go_simp; rfl)); go_simp)
  refine h_done (by kernel_rfl) ?_
  have R3 := Lib.hid (R2.out.below D2.out R2.out.lt)
  have Q3 := Lib.hid (Q2.out.below D2.out Q2.out.lt)
  have B3 := Lib.hid (B2.out.trans (D2.out.mono B2.out.size))
  go_wp2_with (first
    | ((with_reducible refine load_row (o := ⟨some 23, _, _, _, _, _⟩) rfl _ _ rfl w1.heap.size ?_ _ outZ _ R3.out Tryz.underlying42 rfl ?_ ?_); (focus go_simp); (focus (exact OS.out)))
    | ((with_reducible refine store_row (o := ⟨none, _, _, _, _, _⟩) rfl _ (.tmp 4) _ rfl w0.heap.size outZ ?_ ?_ 42 _ Q3.out ?_ ?_ ?_ ?_); (focus go_simp); (focus (first | (go_simp; done) | (go_simp; rfl))); (focus (exact OS.out)); (focus rfl); (focus (exact outZ_one)); intro wz hr hu; have RZ := Lib.hid hr; have BZ := Lib.hid (B3.out.trans (hu.below BL.out)); clear hr hu))
  exact bodyPost_ret (results_cell_row rfl _ _ w0.heap.size 42 _ _ _ (by go_simp) RZ.out Tryz.underlying42 rfl OS.out) rfl ⟨rfl, BZ.out⟩
-- ---- awake
def q17 : LS := ⟨0, 0, 1, []⟩
def q18 : LS := ⟨0, 0, 1, [(1, 1, 0, [])]⟩
theorem q17_app : (q17.app (q17.last + 1, 0 + 1, 0, [])).1 = q18 := by rfl
theorem q18_oth : oth (q18.confAt q18.last) 0 = [] := by decide +kernel
theorem q17_mem : B.mem (q17.confAt q17.last) 0 = true := by decide +kernel
theorem q17_won : quoM (q17.confAt q17.last) (votesOf 0) = true := by decide +kernel
theorem saved_built : Tryz.prog.built 25 [(4, .int .i64 1)] = some [Value.int .i64 0, .int .i64 0, .int .i64 0, .int .i64 0, .int .i64 1, .slice none 0 0, .slice none 0 0].toArray := by kernel_rfl
/-- the node of awake, after k ticks -/
def aw17 (k : Nat) : RS := if k < 10 then { RS.new 0 0 0 0 q17 with waited := (k : Int) } else ({ RS.new 0 0 0 0 q17 with waited := 9 } : RS).led 1 q18
theorem tick17 (k : Nat) (hk : k < 10) {w : World} {g p : Nat} {F : Nat → Prop} (h : RW w g p F (fun _ => False) (aw17 k)) :
    Calls Tryz.prog 10 #[.pointer (some ⟨g, 0, none⟩)] w fun x w' => (∃ v, x = .returned v) ∧ ∃ F', RW w' g p F' (fun _ => False) (aw17 (k + 1)) ∧ Pb17 w w' g F F' := by
  by_cases h9 : k < 9
  · have e1 : aw17 k = { RS.new 0 0 0 0 q17 with waited := (k : Int) } := by unfold aw17; rw [if_pos hk]
    have e2 : aw17 (k + 1) = { RS.new 0 0 0 0 q17 with waited := (k : Int) + 1 } := by unfold aw17; rw [if_pos (by omega)]; simp
    rw [e1] at h
    rw [e2]
    refine (atick_idle h ⟨by show (0 : Int) ≤ 0; decide, by show (0 : Int) ≤ 6; decide⟩ rfl ⟨by show (0 : Int) ≤ (k : Int); omega, by show (k : Int) + 1 < timeV 0; unfold timeV; simp; omega⟩).mono ?_
    rintro x w' ⟨hv, hr, hp⟩
    exact ⟨hv, F, hr, hp⟩
  · obtain rfl : k = 9 := by omega
    have e1 : aw17 9 = { RS.new 0 0 0 0 q17 with waited := 9 } := by unfold aw17; rfl
    have e2 : aw17 (9 + 1) = ({ RS.new 0 0 0 0 q17 with waited := 9 } : RS).led 1 q18 := by unfold aw17; rfl
    rw [e1] at h
    rw [e2]
    exact atick_ask h ⟨by decide, by decide⟩ rfl ⟨by decide, by decide⟩ (by decide) q17_mem ⟨by decide, by decide⟩ ⟨by decide, by decide⟩ (by decide) q18 q17_app q18_oth q17_won
theorem view18 : viewC (aw17 10) = [.int .i64 1, .int .i64 1, .int .i64 3, .int .i64 1, .int .i64 0, .int .i64 0, .int .i64 1, .int .i64 (q18.term q18.last), .int .i64 (q18.confAt q18.last)] := rfl
set_option maxRecDepth 100000 in
set_option maxHeartbeats 8000000 in
theorem awake17 (w : World) : Calls Tryz.prog 6 #[] w fun x w' => x = .returned (.bool true) ∧ Below w.heap.size w w' := by
  have HN := Lib.hid (anew 0 0 0 0 0 1 none 0 0 [] none 0 0 [] w ⟨by decide, by decide⟩ ⟨by decide, by decide⟩ (by decide) (Rd_nil w) (by decide) (Ents.nil w) q17 rfl)
  have VZ := Lib.hid view_zero
  have VS := Lib.hid view_size
  go_enter Tryz.func6, Tryz.ntmps6
  go_wp2_with (first
    | ((with_reducible refine build_row (o := ⟨some 3, _, _, _, _, _⟩) rfl _ _ rfl [Value.int .i64 0, .int .i64 0, .int .i64 0, .int .i64 0, .int .i64 1, .slice none 0 0, .slice none 0 0] ?_ ?_); (focus (go_simp; exact saved_built)))
    | (go_at_call 7; (with_reducible refine HN.out.mono ?_); rintro x w1 ⟨g, p, F, rfl, hr, hg, hF, -, -, hb⟩; have R1 := Lib.hid hr; have G1 := Lib.hid hg; have F1 := Lib.hid hF; have B1 := Lib.hid hb; clear hr hg hF hb))
  go_loopw [7] (fun i wr => ∃ (k : Nat) (F' : Nat → Prop), i = .int .i64 (k : Int) ∧ k ≤ 10 ∧ Hid (RW wr g p F' (fun _ => False) (aw17 k)) ∧ Hid (Pb17 w1 wr g F F')) (fun i _ => 10 - (intOf i).toNat)
  case atStart => exact ⟨0, F, rfl, by omega, R1, Lib.hid ⟨Ft.refl _ _, Grew.refl _ _⟩⟩
  case round =>
    obtain ⟨k, F', rfl, hk, RK, PK⟩ := hrel
    by_cases hlt : k < 10
    · have g2 : (k : Int) < 10 := by omega
      have HT := Lib.hid (tick17 k hlt RK.out)
      go_wp2_with (go_at_call 10; (with_reducible refine HT.out.mono ?_); rintro x w2 ⟨⟨v, rfl⟩, F2, h2, p2⟩; have R2 := Lib.hid h2; have P2 := Lib.hid (PK.out.trans p2); clear h2 p2)
      go_roundw
      case rel => exact ⟨k + 1, F2, vint (by omega), by omega, R2, P2⟩
      case measure => simp [intOf]; omega
    · obtain rfl : k = 10 := by omega
      have HV := aview RK.out
      rw [view18] at HV
      have HV2 := Lib.hid HV
      have BP := Lib.hid (B1.out.trans (PK.out.below B1.out.size G1.out F1.out))
      clear HV
      go_wp2_with (first
        | (go_at_call 8; (with_reducible refine HV2.out.mono ?_); rintro x w3 ⟨rfl, hb⟩; have B3 := Lib.hid (BP.out.trans (hb.mono BP.out.size)); clear hb)
        | ((with_reducible refine alloc_row (o := ⟨some 2, _, _, _, _, _⟩) rfl _ rfl _ VZ.out ?_); intro w4 hr hb hz; have R4 := Lib.hid hr; have B4 := Lib.hid (B3.out.trans (hb.mono B3.out.size)); clear hr hb hz)
        | ((with_reducible refine store_row (o := ⟨none, _, _, _, _, _⟩) rfl _ (.tmp 2) _ rfl w3.heap.size [.int .i64 1, .int .i64 1, .int .i64 3, .int .i64 1, .int .i64 0, .int .i64 0, .int .i64 1, .int .i64 (q18.term q18.last), .int .i64 (q18.confAt q18.last)] ?_ ?_ 32 _ R4.out ?_ ?_ ?_ ?_); (focus go_simp); (focus (first | (go_simp; done) | (go_simp; rfl))); (focus (exact VS.out)); (focus rfl); (focus (exact view_one (aw17 10))); intro w5 hr hu; have B5 := Lib.hid (B4.out.trans (hu.below B3.out.size)); have c0 : w5.cell? ⟨w3.heap.size, 0, none⟩ = some (.int .i64 1) := hr.at17 rfl; have c2 : w5.cell? ⟨w3.heap.size, 2, none⟩ = some (.int .i64 3) := hr.at17 rfl; have c3 : w5.cell? ⟨w3.heap.size, 3, none⟩ = some (.int .i64 1) := hr.at17 rfl; have c6 : w5.cell? ⟨w3.heap.size, 6, none⟩ = some (.int .i64 1) := hr.at17 rfl; clear hr hu))
      go_ret
      exact ⟨rfl, B5.out⟩
set_option maxRecDepth 100000 in
set_option maxHeartbeats 16000000 in
theorem nobody17 (C : List Value) (hC : C.length = 13) (n : Int) (a : Option Addr) (bn bc : Nat) (w : World) : Calls Tryz.prog 4 #[.agg C.toArray, .int .i64 n, .slice a bn bc] w fun x w' => x = .returned (.bool true) ∧ Below w.heap.size w w' := by
  have OZ := Lib.hid outZ_zero
  have OS := Lib.hid out_size
  have RZ := Lib.hid raftZ_zero
  have MS := Lib.hid (show (Tryz.prog.info? 35).map (·.size) = some C.length by rw [hC]; exact ms_infoR)
  have hf0 := out_f0
  have hf1 := out_f1
  have N0 : ∀ w, Hid (NoR w (.pointer none)) := fun w => Lib.hid (.inl rfl)
  clear hC
  go_enter Tryz.func4, Tryz.ntmps4
  go_wp2_with (first
    | (with_reducible refine box_row (o := ⟨some 3, _, _, _, _, _⟩) rfl _ _ rfl C rfl ?_; intro w1 hr1 hb1 hz1; have M1 := Lib.hid hr1; have B1 := Lib.hid hb1; clear hr1 hb1 hz1)
    | ((with_reducible refine alloc_row (o := ⟨some 8, _, _, _, _, _⟩) rfl _ rfl _ RZ.out ?_); intro w2 hr hb hz; have Z2 := Lib.hid (show NoR w2 (.pointer (some ⟨w1.heap.size, 0, none⟩)) from .inr ⟨_, rfl, hr⟩); have M2 := Lib.hid (M1.out.below hb M1.out.lt); have B2 := Lib.hid (B1.out.trans (hb.mono B1.out.size)); clear hr hb hz)
    | (go_at_call 13; (with_reducible refine (apropose_no n a bn bc (N0 w2).out).mono ?_); rintro x w3 ⟨rfl, hb⟩; have Z3 := Lib.hid (Z2.out.mono hb); have M3 := Lib.hid (M2.out.below hb M2.out.lt); have B3 := Lib.hid (B2.out.trans (hb.mono B2.out.size)); clear hb)
    | ((with_reducible refine alloc_row (o := ⟨some 12, _, _, _, _, _⟩) rfl _ rfl _ OZ.out ?_); intro w4 hr hb hz; have O4 := Lib.hid hr; have BB4 := Lib.hid hb; have B4 := Lib.hid (B3.out.trans (hb.mono B3.out.size)); clear hr hb hz)
    | ((with_reducible refine store_row (o := ⟨none, _, _, _, _, _⟩) rfl _ (.tmp 12) _ rfl w3.heap.size outZ ?_ ?_ 42 _ O4.out ?_ ?_ ?_ ?_); (focus go_simp); (focus (first | (go_simp; done) | (go_simp; rfl))); (focus (exact OS.out)); (focus rfl); (focus (exact outZ_one)); intro w5 hr hu; have hb5 : Below w3.heap.size w3 w5 := BB4.out.trans (hu.below (Nat.le_refl _)); have Z5 := Lib.hid (Z3.out.mono hb5); have M5 := Lib.hid (M3.out.below hb5 M3.out.lt); have B5 := Lib.hid (B3.out.trans (hb5.mono B3.out.size)); clear hr hu hb5)
    | (go_at_call 15; (with_reducible refine (aread_no (N0 w5).out).mono ?_); rintro x w6 ⟨rfl, hb⟩; have Z6 := Lib.hid (Z5.out.mono hb); have M6 := Lib.hid (M5.out.below hb M5.out.lt); have B6 := Lib.hid (B5.out.trans (hb.mono B5.out.size)); clear hb)
    | ((with_reducible refine alloc_row (o := ⟨some 15, _, _, _, _, _⟩) rfl _ rfl _ OZ.out ?_); intro w7 hr hb hz; have O7 := Lib.hid hr; have BB7 := Lib.hid hb; clear hr hb hz)
    | ((with_reducible refine store_row (o := ⟨none, _, _, _, _, _⟩) rfl _ (.tmp 15) _ rfl w6.heap.size outZ ?_ ?_ 42 _ O7.out ?_ ?_ ?_ ?_); (focus go_simp); (focus (first | (go_simp; done) | (go_simp; rfl))); (focus (exact OS.out)); (focus rfl); (focus (exact outZ_one)); intro w8 hr hu; have hb8 : Below w6.heap.size w6 w8 := BB7.out.trans (hu.below (Nat.le_refl _)); have Z8 := Lib.hid (Z6.out.mono hb8); have M8 := Lib.hid (M6.out.below hb8 M6.out.lt); have B8 := Lib.hid (B6.out.trans (hb8.mono B6.out.size)); clear hr hu hb8)
    | (go_at_call 13; (with_reducible refine (apropose_no n a bn bc Z8.out).mono ?_); rintro x w9 ⟨rfl, hb⟩; have Z9 := Lib.hid (Z8.out.mono hb); have M9 := Lib.hid (M8.out.below hb M8.out.lt); have B9 := Lib.hid (B8.out.trans (hb.mono B8.out.size)); clear hb)
    | ((with_reducible refine alloc_row (o := ⟨some 19, _, _, _, _, _⟩) rfl _ rfl _ OZ.out ?_); intro wa hr hb hz; have Oa := Lib.hid hr; have BBa := Lib.hid hb; clear hr hb hz)
    | ((with_reducible refine store_row (o := ⟨none, _, _, _, _, _⟩) rfl _ (.tmp 19) _ rfl w9.heap.size outZ ?_ ?_ 42 _ Oa.out ?_ ?_ ?_ ?_); (focus go_simp); (focus (first | (go_simp; done) | (go_simp; rfl))); (focus (exact OS.out)); (focus rfl); (focus (exact outZ_one)); intro wb hr hu; have hbb : Below w9.heap.size w9 wb := BBa.out.trans (hu.below (Nat.le_refl _)); have Zb := Lib.hid (Z9.out.mono hbb); have Mb := Lib.hid (M9.out.below hbb M9.out.lt); have Bb := Lib.hid (B9.out.trans (hbb.mono B9.out.size)); clear hr hu hbb)
    | (go_at_call 16; (with_reducible refine (acompact_no n a bn bc (N0 wb).out).mono ?_); rintro x w' ⟨rfl, rfl⟩)
    | (go_at_call 16; (with_reducible refine (acompact_no n a bn bc Zb.out).mono ?_); rintro x w' ⟨rfl, rfl⟩)
    | ((with_reducible refine load_rowg (o := ⟨some 70, _, _, _, _, _⟩) 1 true 68 rfl _ _ rfl w.heap.size _ C _ Mb.out Tryz.underlying35 rfl ?_ ?_ ?_ ?_ ?_); (focus rfl); (focus go_simp); (focus go_simp); (focus (exact MS.out)))
    | (go_at_call 11; (with_reducible refine (atake_no C (N0 wb).out).mono ?_); rintro x wc ⟨rfl, hb⟩; have Zc := Lib.hid (Zb.out.mono hb); have Bc := Lib.hid (Bb.out.trans (hb.mono Bb.out.size)); clear hb)
    | (go_at_call 10; (with_reducible refine (atick_no Zc.out).mono ?_); rintro x wd ⟨rfl, hb⟩; have Zd := Lib.hid (Zc.out.mono hb); have Bd := Lib.hid (Bc.out.trans (hb.mono Bc.out.size)); clear hb)
    | (go_at_call 8; (with_reducible refine (aview_no (N0 wd).out).mono ?_); rintro x we ⟨rfl, hb⟩; have Ze := Lib.hid (Zd.out.mono hb); have Be := Lib.hid (Bd.out.trans (hb.mono Bd.out.size)); clear hb)
    | (go_at_call 8; (with_reducible refine (aview_no Ze.out).mono ?_); rintro x wf ⟨rfl, hb⟩; have Bf := Lib.hid (Be.out.trans (hb.mono Be.out.size)); clear hb)
    | (go_at_call 17; (with_reducible refine (areads_no (N0 wf).out).mono ?_); rintro x w' ⟨rfl, rfl⟩)
    | (go_at_call 18; (with_reducible refine (acommitted_no n (N0 wf).out).mono ?_); rintro x w' ⟨rfl, rfl⟩)
    | (go_at_call 19; (with_reducible refine (aconf_no (N0 wf).out).mono ?_); rintro x w' ⟨rfl, rfl⟩)
    | (go_at_call 6; (with_reducible refine (awake17 wf).mono ?_); rintro x wg ⟨rfl, hb⟩; have Bg := Lib.hid (Bf.out.trans (hb.mono Bf.out.size)); clear hb))
  go_ret
  exact ⟨rfl, Bg.out⟩
end Go.Proofs.YtjkkopbhdeljmaaGreat.W
