/- LAYER 20 (manifest): slices.Grow, slices.Concat, lists.Insert of snapshots; Add of the program. -/
import Derived.Test.YtjolmjbhpokgmaaGreatMfE
import Derived.Test.YtjolmjbhpokgmaaGreatSlg
import Derived.Test.YtjolmjbhpokgmaaGreatLn
import Derived.Test.YtjolmjbhpokgmaaGreatTail
import Derived.Great.BuildSlice
set_option linter.unusedSimpArgs false
set_option linter.unusedVariables false
namespace Go.Proofs.YtjolmjbhpokgmaaGreat.W
open Go Go.ChangeShapes Go.WideShapes Go.ChangeAt Go.RowKit
open Go.Proofs.YtjolmjbhpokgmaaGreat.P (enc dec)
open Go.Proofs.YtjolmjbhpokgmaaGreat.S

theorem build_rowM {α : Type} {E : El α} (hE : E.Ok Tryz.prog) {y : α} (hf : Instr.fill (fun i => some (i * E.k, E.k)) ((Array.range (1 * E.k)).map (E.z.cells[· % E.z.cells.size]!)) [(0, .agg (E.cells y).toArray)] = some (E.cells y).toArray)
    {w : World} {ops : Array Oper} {rest : List Oper} {o : Oper} {a : Act} {Q : Exit → Act → World → Prop} (hgd : o.guard = none) (x : Operand)
    (ho : o.op = .buildSlice E.sT 1 #[(0, x)]) (hk24 : E.k ≤ 1000) (hx : a.eval x = .agg (E.cells y).toArray)
    (h : ∀ w', Row w' w.heap.size E.eT (E.cells y) → Below w.heap.size w w' → w'.heap.size = w.heap.size + 1 → wpList Tryz.prog ops Q rest (a.put o.dst (.slice (some ⟨w.heap.size, 0, none⟩) 1 1)) w') : wpList Tryz.prog ops Q (o :: rest) a w := by
  obtain ⟨i0, hi, hz0, hz1, hz2⟩ := info_parts hE.info
  have hp := hE.pos
  refine wpList_buildSlice hgd E.sT E.eT 1 _ ho (E.cells y).toArray i0 _ hE.und hi hz0 (by rw [hz1]; omega) (by rw [hz1]; omega) (by rw [hz1]; simp only [List.map_toArray, List.map_cons, List.map_nil, hx]; exact hf) ?_
  exact h _ (Row.new _ _ _) ((Below.refl _ _).alloc (Nat.le_refl _) _) (by simp)
theorem sn_fill (y : SnX) : Instr.fill (fun i => some (i * snE.k, snE.k)) ((Array.range (1 * snE.k)).map (snE.z.cells[· % snE.z.cells.size]!)) [(0, .agg (snE.cells y).toArray)] = some (snE.cells y).toArray := by
  obtain ⟨⟨ys, yn, yb, yt, yk, Q⟩, ya, ym, yc⟩ := y
  kernel_rfl
theorem sno_lt {w : World} {base : Nat} {v : Value} {L : List Sn} (h : SnO w base v L) (e : v.ownBlock = some w.heap.size) : False := by
  obtain ⟨X, h1, -, -⟩ := h
  have := (World.ownsRow.lt h1 _ e).2
  omega
theorem lso_row {α : Type} {E : El α} {w : World} {base g : Nat} {v : Value} {L : List α} (h : LsO E w base v L) (e : v.ownBlock = some g) : ∃ C, Row w g E.eT C := by
  obtain ⟨-, h2⟩ := h
  rcases h2 with ⟨rfl, -⟩ | ⟨b, cap, cur, rfl, -, hh, -⟩
  · simp [Value.ownBlock] at e
  · have : b = g := by simpa [Value.ownBlock] using e
    subst this
    exact ⟨cur.toList, by unfold Row; exact hh⟩
theorem OwnX.keepI {w w' : World} {base : Nat} {x : SnX} {v : Value} {X : List SnX} (h : OwnX w base x) (hX : LsO snE w base v X) (hk : Kp v w w') : OwnX w' base x :=
  ⟨h.sp, h.nm, h.by', h.ti, h.ke, h.len, h.pf, h.own.keep (fun g hg => hk g (World.ownsRow.lt h.own g hg).2 (fun e => by
    obtain ⟨C, hr⟩ := lso_row hX e
    exact lso_ne h.own hr (by decide) hg))⟩
set_option maxRecDepth 100000 in
set_option maxHeartbeats 8000000 in
theorem snigrow (n : Nat) (w : World) (hn : n ≤ 100000) : Calls Tryz.prog 91 #[.slice none 0 0, .int .i64 (n : Int)] w fun x w' => ∃ v, x = .returned v ∧ LsO snE w' w.heap.size v [] ∧ Below w.heap.size w w' := by
  have SZ := Lib.hid sn_size
  rcases Nat.eq_zero_or_pos n with rfl | h0
  · go_enter Tryz.func91, Tryz.ntmps91
    go_wp2_with fail
    go_ret
    exact ⟨_, rfl, LsO.nil _ _, Below.refl _ _⟩
  · have g0 : (0 : Int) < (n : Int) := by omega
    have gw : IntKind.i64.wrap (n : Int) = (n : Int) := by rw [IntKind.wrap_i64]; omega
    go_enter Tryz.func91, Tryz.ntmps91
    go_wp2_with (first
      | ((with_reducible refine append_zeros0 snOk (o := ⟨some 22, _, _, _, _, _⟩) rfl (.tmp 20) (.tmp 21) 3 .i64 Tryz.underlying3 rfl n (n : Int) ?_ ?_ rfl h0 (by omega) ?_); (focus (first | (go_simp; done) | (go_simp; rfl))); (focus (first | (go_simp; done) | (go_simp; rfl) | (go_simp; omega))); intro w1 G hl hG hm hb; have L1 := Lib.hid hl; have B1 := Lib.hid hb; have g1 : (0 : Int) ≤ (G : Int) := by omega
         clear hl hb))
    go_ret
    exact ⟨_, rfl, L1.out, B1.out⟩
theorem snis_info : (Tryz.prog.info? 22).map (fun i => (i.zero, i.size, i.bytes)) = some (some (.slice none 0 0), 1, 24) := by kernel_rfl
theorem snis_size : (Tryz.prog.info? 22).map (·.size) = some 1 := by kernel_rfl
set_option maxRecDepth 100000 in
/-- BUILD of a slice of three slices -/
theorem snibs3 {w : World} {ops : Array Oper} {rest : List Oper} {o : Oper} {a : Act} {Q : Exit → Act → World → Prop} (hgd : o.guard = none) (x0 x1 x2 : Operand)
    (ho : o.op = .buildSlice 105 3 #[(0, x0), (1, x1), (2, x2)]) (a0 a1 a2 : Option Addr) (n0 c0 n1 c1 n2 c2 : Nat) (h0 : a.eval x0 = .slice a0 n0 c0) (h1 : a.eval x1 = .slice a1 n1 c1) (h2 : a.eval x2 = .slice a2 n2 c2)
    (hk : ∀ w', Row w' w.heap.size 22 [.slice a0 n0 c0, .slice a1 n1 c1, .slice a2 n2 c2] → Below w.heap.size w w' → w'.heap.size = w.heap.size + 1 → wpList Tryz.prog ops Q rest (a.put o.dst (.slice (some ⟨w.heap.size, 0, none⟩) 3 3)) w') : wpList Tryz.prog ops Q (o :: rest) a w := by
  obtain ⟨i0, hi0, hz0, hz1, hz2⟩ := info_parts snis_info
  refine wpList_buildSlice hgd 105 22 3 _ ho #[.slice a0 n0 c0, .slice a1 n1 c1, .slice a2 n2 c2] i0 _ Tryz.underlying105 hi0 hz0 (by rw [hz1]; decide) (by rw [hz1]; decide) (by rw [hz1]; simp only [List.map_toArray, List.map_cons, List.map_nil, h0, h1, h2]; go_simp; first | done | rfl) ?_
  exact hk _ (Row.new _ _ _) ((Below.refl _ _).alloc (Nat.le_refl _) _) (by simp)
theorem snik3 {w : World} {g : Nat} {t : TypeId} {a b c : Value} (h : Row w g t [a, b, c]) : w.cell? ⟨g, 0, none⟩ = some a ∧ w.cell? ⟨g, 1, none⟩ = some b ∧ w.cell? ⟨g, 2, none⟩ = some c := by
  refine ⟨?_, ?_, ?_⟩ <;> (rw [h.cellV]; rfl)
set_option maxRecDepth 100000 in
set_option maxHeartbeats 16000000 in
theorem sniconcat (bx : Nat) (a0 a1 a2 : Option Addr) (n0 c0 n1 c1 n2 c2 : Nat) (L0 L1 L2 : List SnX) (w : World) (hr : Row w bx 22 [.slice a0 n0 c0, .slice a1 n1 c1, .slice a2 n2 c2]) (h0 : Ls snE w a0 n0 c0 L0) (h1 : Ls snE w a1 n1 c1 L1) (h2 : Ls snE w a2 n2 c2 L2) (hm : n0 + n1 + n2 ≤ 1000) :
    Calls Tryz.prog 77 #[.slice (some ⟨bx, 0, none⟩) 3 3] w fun x w' => ∃ v', x = .returned v' ∧ LsO snE w' w.heap.size v' (L0 ++ L1 ++ L2) ∧ Below w.heap.size w w' := by
  have R := Lib.hid hr
  have H0 := Lib.hid h0
  have H1 := Lib.hid h1
  have H2 := Lib.hid h2
  have E0 := Lib.hid h0.hlen
  have E1 := Lib.hid h1.hlen
  have E2 := Lib.hid h2.hlen
  have SZ := Lib.hid snis_size
  have HGR := Lib.hid (snigrow (n0 + n1 + n2))
  clear hr h0 h1 h2
  obtain ⟨k0, k1, k2⟩ := snik3 R.out
  have m0 : (n0 : Int) ≤ 1000 := by omega
  have m1 : (n1 : Int) ≤ 1000 := by omega
  have m2 : (n2 : Int) ≤ 1000 := by omega
  have m3 : (n0 : Int) + (n1 : Int) + (n2 : Int) ≤ 1000 := by omega
  have p0 : (0 : Int) ≤ (n0 : Int) := by omega
  have p1 : (0 : Int) ≤ (n1 : Int) := by omega
  have p2 : (0 : Int) ≤ (n2 : Int) := by omega
  have q1 : IntKind.i64.wrap ((n0 : Int) + (n1 : Int)) = (n0 : Int) + (n1 : Int) := by rw [IntKind.wrap_i64]; omega
  have q2 : IntKind.i64.wrap ((n0 : Int) + (n1 : Int) + (n2 : Int)) = (n0 : Int) + (n1 : Int) + (n2 : Int) := by rw [IntKind.wrap_i64]; omega
  have r1 : ¬ (n0 : Int) < 0 := by omega
  have r2 : ¬ (n0 : Int) + (n1 : Int) < 0 := by omega
  have r3 : ¬ (n0 : Int) + (n1 : Int) + (n2 : Int) < 0 := by omega
  go_enter Tryz.func77, Tryz.ntmps77
  go_wp2_with fail
  go_loop [3, 11] (fun s i => ∃ (k : Nat) (z : Int), i = .int .i64 (k : Int) ∧ s = .int .i64 z ∧ ((k = 0 ∧ z = 0) ∨ (k = 1 ∧ z = (n0 : Int)) ∨ (k = 2 ∧ z = (n0 : Int) + (n1 : Int)) ∨ (k = 3 ∧ z = (n0 : Int) + (n1 : Int) + (n2 : Int)))) (fun _ i => 3 - (intOf i).toNat)
  case atStart => exact ⟨0, 0, rfl, rfl, .inl ⟨rfl, rfl⟩⟩
  case round =>
    obtain ⟨k, z, rfl, rfl, hk⟩ := hrel
    rcases hk with ⟨rfl, rfl⟩ | ⟨rfl, rfl⟩ | ⟨rfl, rfl⟩ | ⟨rfl, rfl⟩
    · go_wp2_with fail
      go_round
      case rel => exact ⟨1, (n0 : Int), rfl, vint (by first | rfl | omega | simp), .inr (.inl ⟨rfl, rfl⟩)⟩
      case measure => simp [intOf]
    · go_wp2_with fail
      go_round
      case rel => exact ⟨2, (n0 : Int) + (n1 : Int), rfl, vint (by first | rfl | omega | simp), .inr (.inr (.inl ⟨rfl, rfl⟩))⟩
      case measure => simp [intOf]
    · go_wp2_with fail
      go_round
      case rel => exact ⟨3, (n0 : Int) + (n1 : Int) + (n2 : Int), rfl, vint (by first | rfl | omega | simp), .inr (.inr (.inr ⟨rfl, rfl⟩))⟩
      case measure => simp [intOf]
    · clear k0 k1 k2 q1 q2 r1 r2 r3
      have HGR := Lib.hid (show ∀ w, Calls Tryz.prog 91 #[.slice none 0 0, .int .i64 ((n0 : Int) + (n1 : Int) + (n2 : Int))] w fun x w' => ∃ v, x = .returned v ∧ LsO snE w' w.heap.size v [] ∧ Below w.heap.size w w' from fun w => by
        have := HGR.out w (by omega)
        rwa [show ((n0 + n1 + n2 : Nat) : Int) = (n0 : Int) + (n1 : Int) + (n2 : Int) by omega] at this)
      go_wp2_with (first
        | (go_at_call 91; (with_reducible refine (HGR.out _).mono ?_); rintro x w1 ⟨v1, rfl, hl, hb⟩; have O1 := Lib.hid hl; have B1 := Lib.hid hb; clear hl hb))
      go_loopw [6, 27] (fun v i wr => ∃ (k : Nat) (M : List SnX), i = .int .i64 (k : Int) ∧ Hid (LsO snE wr w.heap.size v M) ∧ Hid (Below w.heap.size w wr) ∧ ((k = 0 ∧ M = []) ∨ (k = 1 ∧ L0 = M) ∨ (k = 2 ∧ M = L0 ++ L1) ∨ (k = 3 ∧ M = L0 ++ L1 ++ L2))) (fun _ i _ => 3 - (intOf i).toNat)
      case atStart => exact ⟨0, [], rfl, O1, B1, .inl ⟨rfl, rfl⟩⟩
      case round =>
        obtain ⟨k, M, rfl, O, B, hk⟩ := hrel
        obtain ⟨k0, k1, k2⟩ := snik3 (R.out.below B.out R.out.lt)
        rcases hk with ⟨rfl, rfl⟩ | ⟨rfl, rfl⟩ | ⟨rfl, rfl⟩ | ⟨rfl, rfl⟩
        · go_wp2_with (first
            | (at_builtin; (with_reducible refine append_ls snOk (o := ⟨some 33, _, _, _, _, _⟩) rfl (.tmp 31) (.tmp 32) rfl w.heap.size u6 [] ?_ O.out a0 n0 c0 L0 ?_ (H0.out.mono snOk B.out) ?_ B.out.size ?_); (focus (first | (go_simp; done) | (go_simp; rfl))); (focus (first | (go_simp; done) | (go_simp; rfl))); (focus (simp; omega)); intro v2 w2 hN hb _ _; have N2 := Lib.hid hN; have B2 := Lib.hid (B.out.trans hb); clear hN hb))
          go_roundw
          case rel => exact ⟨1, L0, rfl, Lib.hid (by have := N2.out; rwa [List.nil_append] at this), B2, .inr (.inl ⟨rfl, rfl⟩)⟩
          case measure => simp [intOf]
        · go_wp2_with (first
            | (at_builtin; (with_reducible refine append_ls snOk (o := ⟨some 33, _, _, _, _, _⟩) rfl (.tmp 31) (.tmp 32) rfl w.heap.size u6 L0 ?_ O.out a1 n1 c1 L1 ?_ (H1.out.mono snOk B.out) ?_ B.out.size ?_); (focus (first | (go_simp; done) | (go_simp; rfl))); (focus (first | (go_simp; done) | (go_simp; rfl))); (focus (rw [E0.out]; omega)); intro v2 w2 hN hb _ _; have N2 := Lib.hid hN; have B2 := Lib.hid (B.out.trans hb); clear hN hb))
          go_roundw
          case rel => exact ⟨2, L0 ++ L1, rfl, N2, B2, .inr (.inr (.inl ⟨rfl, rfl⟩))⟩
          case measure => simp [intOf]
        · go_wp2_with (first
            | (at_builtin; (with_reducible refine append_ls snOk (o := ⟨some 33, _, _, _, _, _⟩) rfl (.tmp 31) (.tmp 32) rfl w.heap.size u6 (L0 ++ L1) ?_ O.out a2 n2 c2 L2 ?_ (H2.out.mono snOk B.out) ?_ B.out.size ?_); (focus (first | (go_simp; done) | (go_simp; rfl))); (focus (first | (go_simp; done) | (go_simp; rfl))); (focus (rw [List.length_append, E0.out, E1.out]; omega)); intro v2 w2 hN hb _ _; have N2 := Lib.hid hN; have B2 := Lib.hid (B.out.trans hb); clear hN hb))
          go_roundw
          case rel => exact ⟨3, L0 ++ L1 ++ L2, rfl, N2, B2, .inr (.inr (.inr ⟨rfl, rfl⟩))⟩
          case measure => simp [intOf]
        · go_wp2_with fail
          go_ret
          exact ⟨_, rfl, O.out, B.out⟩
set_option maxRecDepth 100000 in
set_option maxHeartbeats 16000000 in
/-- lists.Insert of a snapshot of one's own at snapshots of one's own -/
theorem sniinsert (y : SnX) (g base : Nat) (a : Option Addr) (n c : Nat) (L : List Sn) (z : SnX) (w : World) (hv : SnO w base (.slice a n c) L) (hz : OwnX w base z) (hn : L.length = n) (hm9 : n ≤ 900) (hg : Row w g 45 y.cells) (hbw : base ≤ w.heap.size) :
    Calls Tryz.prog 56 #[.slice a n c, .agg (snE.cells z).toArray, .func (.func 57) #[] #[.pointer (some ⟨g, 0, none⟩)]] w fun x w' => ∃ v', x = .returned v' ∧ SnO w' base v' (L.take (aheadM y.s L) ++ [z.s] ++ L.drop (aheadM y.s L)) ∧ Below base w w' := by
  obtain ⟨X, h1, h2, h3⟩ := hv
  obtain ⟨a', c', e, hls, -⟩ := h1.ls snOk (fun x hx => (h3 x hx).fit)
  have hXn : X.length = n := by rw [← hn, ← h2, List.length_map]
  rw [hXn] at e hls
  injection e with e1 e2 e3
  subst e1 e3
  have H := Lib.hid hls
  have HS := Lib.hid (show snE.fit w z from hz.fit)
  have hm := hls.hmax
  have hle := hls.hle
  have SZ := Lib.hid sn_size
  have HI := Lib.hid (fun w' (hb : Below w.heap.size w w') => idxabove y g a n c L w' ⟨X, hls.mono snOk hb, h2⟩ (hg.below hb hg.lt))
  obtain ⟨q, hq, hz2, hah⟩ : ∃ q : Nat, q ≤ n ∧ ((axM y.s L = -1 ∧ (n : Int) = (q : Int)) ∨ axM y.s L = (q : Int)) ∧ aheadM y.s L = q := by
    unfold axM
    have hal := ahead_le y.s L
    rw [hn] at hal ⊢
    by_cases hlt : aheadM y.s L < n
    · rw [if_pos hlt]; exact ⟨_, hal, .inr rfl, rfl⟩
    · rw [if_neg hlt]; exact ⟨_, hal, .inl ⟨rfl, by omega⟩, rfl⟩
  rw [hah]
  obtain ⟨M, hM⟩ : ∃ M, X.take q ++ [z] ++ X.drop q = M := ⟨_, rfl⟩
  have HOUT := Lib.hid (fun (w' : World) (v' : Value) (hl : LsO snE w' w.heap.size v' M) (hb : Below w.heap.size w w') => (show SnO w' base v' (L.take q ++ [z.s] ++ L.drop q) from ⟨M, hl.base hbw, by rw [← hM, List.map_append, List.map_append, List.map_take, List.map_drop, h2]; rfl, fun y hy => by
      rw [← hM] at hy
      rcases List.mem_append.1 hy with hy | hy
      · rcases List.mem_append.1 hy with hy | hy
        · exact (h3 y (List.mem_of_mem_take hy)).kept hb
        · rw [List.mem_singleton.1 hy]; exact hz.kept hb
      · exact (h3 y (List.mem_of_mem_drop hy)).kept hb⟩))
  have HM := Lib.hid hM
  obtain ⟨ys, hys⟩ : ∃ s, y.s = s := ⟨_, rfl⟩
  rw [hys] at HI hz2
  generalize axM ys L = zz at HI hz2
  generalize L.take q ++ [z.s] ++ L.drop q = OUT at HOUT ⊢
  have gn : (0 : Int) ≤ (n : Int) := by omega
  have gq0 : (0 : Int) ≤ (q : Int) := by omega
  have gq : (q : Int) ≤ (n : Int) := by omega
  have gc : (q : Int) ≤ (c : Int) := by omega
  have gq1 : ¬ (q : Int) < 0 := by omega
  clear h1 h2 h3 hls hz hg hah hM hys hXn hn
  rcases hz2 with ⟨rfl, hqn⟩ | rfl
  all_goals
    first
      | (have HQE := Lib.hid hqn; clear hqn)
      | skip
    go_enter Tryz.func56, Tryz.ntmps56
    go_wp2_with (first
      | ((with_reducible refine box_row (o := ⟨some 4, _, _, _, _, _⟩) rfl _ _ rfl (snE.cells z) rfl ?_); intro w1 hr hb hz; have R1 := Lib.hid hr; have B1 := Lib.hid hb; clear hr hb hz)
      | (go_at_call 75; (with_reducible refine (HI.out w1 B1.out).mono ?_); rintro x w2 ⟨rfl, hb⟩; have R2 := Lib.hid (R1.out.below hb R1.out.lt); have B2 := Lib.hid (B1.out.trans (hb.mono B1.out.size)); clear hb))
    try rw [HQE.out]
    refine region_h (fun v => Below w2.heap.size w2 v) (by kernel_rfl) (by kernel_rfl) (Below.refl _ _).drew ?_
    obtain ⟨wd, hwd⟩ : ∃ wd, w2.drew = wd := ⟨_, rfl⟩
    have D0 : Hid (Below w2.heap.size w2 wd) := Lib.hid (by rw [← hwd]; exact (Below.refl _ _).drew)
    rw [hwd]
    clear hwd
    (refine h_read 0 rfl (by kernel_rfl) (by kernel_rfl) (h_free rfl) ?_ ?_ ?_; rotate_left; (focus (intro v hv; go_simp; rfl)); go_simp)
    (refine h_read 1 rfl (by kernel_rfl) (by kernel_rfl) (h_free rfl) ?_ ?_ ?_; rotate_left; (focus (intro v hv; go_simp; rfl)); go_simp)
    (refine h_read 2 rfl (by kernel_rfl) (by kernel_rfl) (h_free rfl) (.slice a q c) ?_ ?_; (focus (intro v hv; go_simp; first | done | rfl | (intro hh; exfalso; omega) | omega)); go_simp)
    (refine h_read 3 rfl (by kernel_rfl) (by kernel_rfl) (h_free rfl) ?_ ?_ ?_; rotate_left; (focus (intro v hv; refine run_cells 45 (.tmp 4) ?_ w.heap.size 0 ?_ (snE.cells z) _ (fun j' u' hj => by rw [hv.cell (p := ⟨w.heap.size, 0 + j', none⟩) R2.out.lt, Nat.zero_add, R2.out.cellV]; exact hj) Tryz.underlying45 rfl sn_size; (focus rfl); go_simp)); go_simp)
    (refine h_read 5 rfl (by kernel_rfl) (by kernel_rfl) (h_free rfl) ?_ ?_ ?_; rotate_left; (focus (intro v hv; go_simp; rfl)); go_simp)
    (refine h_read 6 rfl (by kernel_rfl) (by kernel_rfl) (h_free rfl) ?_ ?_ ?_; rotate_left; (focus (intro v hv; go_simp; rfl)); go_simp)
    (refine h_read 7 rfl (by kernel_rfl) (by kernel_rfl) (h_free rfl) (.slice (if c = q then a else a.map (fun x => x.add (q * snE.k))) (n - q) (c - q)) ?_ ?_; (focus (intro v hv; go_simp; first | done | rfl | (intro hh; exfalso; omega) | omega)); go_simp)
    (refine h_list 4 rfl (by kernel_rfl) ?_; intro K hK)
    refine build_ls snOk sn_fill (o := ⟨some 19, _, _, _, _, _⟩) rfl _ rfl z ?_ (snOk.mono z _ _ HS.out (B2.out.trans (D0.out.mono B2.out.size))) (by decide) ?_
    · first | (go_simp; done) | (go_simp; rfl)
    intro w3 hl hb hz
    have X3 := Lib.hid hl
    have D3 := Lib.hid (D0.out.trans (hb.mono D0.out.size))
    clear hl hb hz
    refine hK _ _ D3.out ?_
    go_simp
    (refine h_list 8 rfl (by kernel_rfl) ?_; intro K hK)
    refine snibs3 (o := ⟨some 23, _, _, _, _, _⟩) rfl _ _ _ rfl a (some ⟨wd.heap.size, 0, none⟩) (if c = q then a else a.map (fun x => x.add (q * snE.k))) q c 1 1 (n - q) (c - q) ?_ ?_ ?_ ?_
    · first | (go_simp; done) | (go_simp; rfl)
    · first | (go_simp; done) | (go_simp; rfl)
    · first | (go_simp; done) | (go_simp; rfl)
    intro w4 hr hb hz
    have R4 := Lib.hid hr
    have X4 := Lib.hid (X3.out.mono snOk hb)
    have D4 := Lib.hid (D3.out.trans (hb.mono D3.out.size))
    have BW := Lib.hid (B2.out.trans (D4.out.mono B2.out.size))
    have LW := Lib.hid (H.out.mono snOk BW.out)
    clear hr hb hz
    refine hK _ _ D4.out ?_
    go_simp
    (refine h_call 9 rfl (by kernel_rfl) (h_free rfl) 77 ?_ ?_ ?_; rotate_left; (focus (go_simp; rfl)))
    refine (sniconcat w3.heap.size a (some ⟨wd.heap.size, 0, none⟩) (if c = q then a else a.map (fun x => x.add (q * snE.k))) q c 1 1 (n - q) (c - q) (X.take q) [z] (X.drop q) w4 R4.out (LW.out.first q hq) X4.out (LW.out.rest q hq) (by omega)).mono ?_
    rintro x w5 ⟨v5, rfl, hl, hb⟩
    have D5 := Lib.hid (D4.out.trans (hb.mono D4.out.size))
    have N5 := Lib.hid (by (have hq5 := hl.base D4.out.size); rw [HM.out] at hq5; exact hq5)
    clear hl hb
    refine ⟨_, rfl, D5.out, ?_⟩
    go_simp
    (refine h_read 10 rfl (by kernel_rfl) (by kernel_rfl) (h_free rfl) ?_ ?_ ?_; rotate_left; (focus (intro v hv; go_simp; rfl)); go_simp)
    refine h_done (by kernel_rfl) ?_
    go_wp2_with fail
    all_goals
      go_ret
      exact ⟨_, rfl, HOUT.out _ _ (N5.out.base B2.out.size) (B2.out.trans (D5.out.mono B2.out.size)), (B2.out.trans (D5.out.mono B2.out.size)).mono hbw⟩
set_option maxRecDepth 100000 in
set_option maxHeartbeats 32000000 in
theorem pmadd (y : SnX) (a : Option Addr) (n c : Nat) (L : List Sn) (w : World) (h : SnL w a n c L) (hf : FewP L) (hn : n ≤ 1000) (hy : y.fit w) (hyP : y.s.P.length ≤ 1000) :
    Calls Tryz.prog 25 #[.slice a n c, .agg y.cells.toArray] w fun x w' => ∃ v, x = .returned (.tuple #[v, .int .i64 (addM L y.s).2]) ∧ SnO w' w.heap.size v (addM L y.s).1 ∧ Below w.heap.size w w' := by
  have SZ := Lib.hid sn_size
  have H := Lib.hid h
  have HF := Lib.hid hf
  have HN := Lib.hid hn
  have HLN := Lib.hid (show L.length = n by obtain ⟨X, hX, e⟩ := h; rw [← e, List.length_map, hX.hlen])
  have FY := Lib.hid hy
  have HO := Lib.hid (fun w' (hb : Below w.heap.size w w') => pfits y w' (snOk.mono y _ _ hy hb))
  have HC := Lib.hid (fun g1 g2 w' (hb : Below w.heap.size w w') h1 h2 => pcont y.s.sp y.s.nm g1 g2 a n c L w' (h.mono hb) h1 h2)
  have hym : y.m ≤ 1000 := by rw [← hy.P.hlen]; exact hyP
  obtain ⟨⟨ys, yn, yb, yt, yk, Q⟩, ya, ym, yc⟩ := y
  have HOW := Lib.hid (fun w' (hb : Below w.heap.size w w') => mown ys yn yb yt yk ya ym yc Q w' (hy.P.mono pcOk hb) hym)
  dsimp only at HC ⊢
  obtain ⟨b0, h0⟩ : ∃ b, okM ⟨ys, yn, yb, yt, yk, Q⟩ = b := ⟨_, rfl⟩
  obtain ⟨b1, h1⟩ : ∃ b, hasM ys yn L = b := ⟨_, rfl⟩
  dsimp only at HO
  rw [h0] at HO
  rw [h1] at HC
  have H0 := Lib.hid h0
  have H1 := Lib.hid h1
  clear h hf hn hy hyP hym h0 h1
  cases b0
  · have HE := Lib.hid (show addM L ⟨ys, yn, yb, yt, yk, Q⟩ = (L, 1) by unfold addM; rw [if_pos H0.out])
    go_enter Tryz.func25, Tryz.ntmps25
    go_wp2_with (first
      | ((with_reducible refine box_row (o := ⟨some 3, _, _, _, _, _⟩) rfl _ _ rfl (snC ys yn yb yt yk ya ym yc) rfl ?_); intro w1 hr hb hz; have R1 := Lib.hid hr; have B1 := Lib.hid hb; clear hr hb hz)
      | (go_at_call 51; (with_reducible refine (mcopy a n c L w1 (H.out.mono B1.out) HN.out HF.out).mono ?_); rintro x w2 ⟨a2, c2, rfl, hs, hb⟩; have S2 := Lib.hid (hs.base B1.out.size); have R2 := Lib.hid (R1.out.below hb R1.out.lt); have B2 := Lib.hid (B1.out.trans (hb.mono B1.out.size)); clear hs hb)
      | ((with_reducible refine load_row (o := ⟨some 10, _, _, _, _, _⟩) rfl _ _ rfl w.heap.size ?_ _ (snC ys yn yb yt yk ya ym yc) _ R2.out Tryz.underlying45 rfl ?_ ?_); (focus go_simp); (focus (exact SZ.out)))
      | (go_at_call 53; (with_reducible refine (HO.out w2 B2.out).mono ?_); rintro x w3 ⟨rfl, hb⟩; have S3 := Lib.hid (S2.out.kept hb); have R3 := Lib.hid (R2.out.below hb R2.out.lt); have B3 := Lib.hid (B2.out.trans (hb.mono B2.out.size)); obtain ⟨e0, e1, e2, e3, e4, e5⟩ := R3.out.h6s; clear hb e2 e3 e4 e5))
    go_ret2
    rw [HE.out]
    exact ⟨_, rfl, S3.out, B3.out⟩
  · cases b1
    case true =>
      have HE := Lib.hid (show addM L ⟨ys, yn, yb, yt, yk, Q⟩ = (L, 15) by unfold addM; rw [if_neg (by rw [H0.out]; decide), if_pos H1.out])
      go_enter Tryz.func25, Tryz.ntmps25
      go_wp2_with (first
        | ((with_reducible refine box_row (o := ⟨some 3, _, _, _, _, _⟩) rfl _ _ rfl (snC ys yn yb yt yk ya ym yc) rfl ?_); intro w1 hr hb hz; have R1 := Lib.hid hr; have B1 := Lib.hid hb; clear hr hb hz)
        | (go_at_call 51; (with_reducible refine (mcopy a n c L w1 (H.out.mono B1.out) HN.out HF.out).mono ?_); rintro x w2 ⟨a2, c2, rfl, hs, hb⟩; have S2 := Lib.hid (hs.base B1.out.size); have R2 := Lib.hid (R1.out.below hb R1.out.lt); have B2 := Lib.hid (B1.out.trans (hb.mono B1.out.size)); clear hs hb)
        | ((with_reducible refine load_row (o := ⟨some 10, _, _, _, _, _⟩) rfl _ _ rfl w.heap.size ?_ _ (snC ys yn yb yt yk ya ym yc) _ R2.out Tryz.underlying45 rfl ?_ ?_); (focus go_simp); (focus (exact SZ.out)))
        | (go_at_call 53; (with_reducible refine (HO.out w2 B2.out).mono ?_); rintro x w3 ⟨rfl, hb⟩; have S3 := Lib.hid (S2.out.kept hb); have R3 := Lib.hid (R2.out.below hb R2.out.lt); have B3 := Lib.hid (B2.out.trans (hb.mono B2.out.size)); obtain ⟨e0, e1, e2, e3, e4, e5⟩ := R3.out.h6s; clear hb e2 e3 e4 e5)
        | (go_at_call 55; (with_reducible refine (pcalled ys yn w3).mono ?_); rintro x w4 ⟨g1, g2, rfl, hr1, hr2, hb⟩; have G1 := Lib.hid hr1; have G2 := Lib.hid hr2; have S4 := Lib.hid (S3.out.kept hb); have R4 := Lib.hid (R3.out.below hb R3.out.lt); have B4 := Lib.hid (B3.out.trans (hb.mono B3.out.size)); clear hr1 hr2 hb e0 e1)
        | (go_at_call 54; (with_reducible refine (HC.out g1 g2 w4 B4.out G1.out G2.out).mono ?_); rintro x w5 ⟨rfl, hb⟩; have S5 := Lib.hid (S4.out.kept hb); have R5 := Lib.hid (R4.out.below hb R4.out.lt); have B5 := Lib.hid (B4.out.trans (hb.mono B4.out.size)); clear hb))
      go_ret2
      rw [HE.out]
      exact ⟨_, rfl, S5.out, B5.out⟩
    case false =>
      by_cases h12 : 12 ≤ n
      · have HE := Lib.hid (show addM L ⟨ys, yn, yb, yt, yk, Q⟩ = (L, 7) by unfold addM; rw [if_neg (by rw [H0.out]; decide), if_neg (by dsimp only; rw [H1.out]; decide), if_pos (by rw [HLN.out]; exact h12)])
        have g12 : (12 : Int) ≤ (n : Int) := by omega
        go_enter Tryz.func25, Tryz.ntmps25
        go_wp2_with (first
          | ((with_reducible refine box_row (o := ⟨some 3, _, _, _, _, _⟩) rfl _ _ rfl (snC ys yn yb yt yk ya ym yc) rfl ?_); intro w1 hr hb hz; have R1 := Lib.hid hr; have B1 := Lib.hid hb; clear hr hb hz)
          | (go_at_call 51; (with_reducible refine (mcopy a n c L w1 (H.out.mono B1.out) HN.out HF.out).mono ?_); rintro x w2 ⟨a2, c2, rfl, hs, hb⟩; have S2 := Lib.hid (hs.base B1.out.size); have R2 := Lib.hid (R1.out.below hb R1.out.lt); have B2 := Lib.hid (B1.out.trans (hb.mono B1.out.size)); clear hs hb)
          | ((with_reducible refine load_row (o := ⟨some 10, _, _, _, _, _⟩) rfl _ _ rfl w.heap.size ?_ _ (snC ys yn yb yt yk ya ym yc) _ R2.out Tryz.underlying45 rfl ?_ ?_); (focus go_simp); (focus (exact SZ.out)))
          | (go_at_call 53; (with_reducible refine (HO.out w2 B2.out).mono ?_); rintro x w3 ⟨rfl, hb⟩; have S3 := Lib.hid (S2.out.kept hb); have R3 := Lib.hid (R2.out.below hb R2.out.lt); have B3 := Lib.hid (B2.out.trans (hb.mono B2.out.size)); obtain ⟨e0, e1, e2, e3, e4, e5⟩ := R3.out.h6s; clear hb e2 e3 e4 e5)
          | (go_at_call 55; (with_reducible refine (pcalled ys yn w3).mono ?_); rintro x w4 ⟨g1, g2, rfl, hr1, hr2, hb⟩; have G1 := Lib.hid hr1; have G2 := Lib.hid hr2; have S4 := Lib.hid (S3.out.kept hb); have R4 := Lib.hid (R3.out.below hb R3.out.lt); have B4 := Lib.hid (B3.out.trans (hb.mono B3.out.size)); clear hr1 hr2 hb e0 e1)
          | (go_at_call 54; (with_reducible refine (HC.out g1 g2 w4 B4.out G1.out G2.out).mono ?_); rintro x w5 ⟨rfl, hb⟩; have S5 := Lib.hid (S4.out.kept hb); have R5 := Lib.hid (R4.out.below hb R4.out.lt); have B5 := Lib.hid (B4.out.trans (hb.mono B4.out.size)); clear hb))
        go_ret2
        rw [HE.out]
        exact ⟨_, rfl, S5.out, B5.out⟩
      · have hE := (show addM L ⟨ys, yn, yb, yt, yk, Q⟩ = (L.take (aheadM ⟨ys, yn, yb, yt, yk, Q⟩ L) ++ [⟨ys, yn, yb, yt, yk, Q⟩] ++ L.drop (aheadM ⟨ys, yn, yb, yt, yk, Q⟩ L), 0) by unfold addM; rw [if_neg (by rw [H0.out]; decide), if_neg (by dsimp only; rw [H1.out]; decide), if_neg (by rw [HLN.out]; exact h12)])
        have g12 : ¬ (12 : Int) ≤ (n : Int) := by omega
        have HE := Lib.hid hE
        clear hE
        go_enter Tryz.func25, Tryz.ntmps25
        go_wp2_with (first
          | ((with_reducible refine box_row (o := ⟨some 3, _, _, _, _, _⟩) rfl _ _ rfl (snC ys yn yb yt yk ya ym yc) rfl ?_); intro w1 hr hb hz; have R1 := Lib.hid hr; have B1 := Lib.hid hb; clear hr hb hz)
          | (go_at_call 51; (with_reducible refine (mcopy a n c L w1 (H.out.mono B1.out) HN.out HF.out).mono ?_); rintro x w2 ⟨a2, c2, rfl, hs, hb⟩; have S2 := Lib.hid (hs.base B1.out.size); have R2 := Lib.hid (R1.out.below hb R1.out.lt); have B2 := Lib.hid (B1.out.trans (hb.mono B1.out.size)); clear hs hb)
          | ((with_reducible refine load_row (o := ⟨some 10, _, _, _, _, _⟩) rfl _ _ rfl w.heap.size ?_ _ (snC ys yn yb yt yk ya ym yc) _ R2.out Tryz.underlying45 rfl ?_ ?_); (focus go_simp); (focus (exact SZ.out)))
          | (go_at_call 53; (with_reducible refine (HO.out w2 B2.out).mono ?_); rintro x w3 ⟨rfl, hb⟩; have S3 := Lib.hid (S2.out.kept hb); have R3 := Lib.hid (R2.out.below hb R2.out.lt); have B3 := Lib.hid (B2.out.trans (hb.mono B2.out.size)); obtain ⟨e0, e1, e2, e3, e4, e5⟩ := R3.out.h6s; clear hb e2 e3 e4 e5)
          | (go_at_call 55; (with_reducible refine (pcalled ys yn w3).mono ?_); rintro x w4 ⟨g1, g2, rfl, hr1, hr2, hb⟩; have G1 := Lib.hid hr1; have G2 := Lib.hid hr2; have S4 := Lib.hid (S3.out.kept hb); have R4 := Lib.hid (R3.out.below hb R3.out.lt); have B4 := Lib.hid (B3.out.trans (hb.mono B3.out.size)); clear hr1 hr2 hb e0 e1)
          | (go_at_call 54; (with_reducible refine (HC.out g1 g2 w4 B4.out G1.out G2.out).mono ?_); rintro x w5 ⟨rfl, hb⟩; have S5 := Lib.hid (S4.out.kept hb); have R5 := Lib.hid (R4.out.below hb R4.out.lt); have B5 := Lib.hid (B4.out.trans (hb.mono B4.out.size)); clear hb)
          | ((with_reducible refine load_row (o := ⟨some 29, _, _, _, _, _⟩) rfl _ _ rfl w.heap.size ?_ _ (snC ys yn yb yt yk ya ym yc) _ R5.out Tryz.underlying45 rfl ?_ ?_); (focus go_simp); (focus (exact SZ.out)))
          | (go_at_call 52; (with_reducible refine (HOW.out w5 B5.out).mono ?_); rintro x w7 ⟨a7, c7, rfl, hown, hb⟩; have S7 := Lib.hid (S5.out.kept hb); have R7 := Lib.hid (R5.out.below hb R5.out.lt); have Z7 := Lib.hid (show OwnX w7 w.heap.size ⟨⟨ys, yn, yb, yt, yk, Q⟩, a7, ym, c7⟩ from ⟨FY.out.sp, FY.out.nm, FY.out.by', FY.out.ti, FY.out.ke, FY.out.P.hlen, (fun p hp => FY.out.P.hfit p hp), hown.base B5.out.size⟩); have B7 := Lib.hid (B5.out.trans (hb.mono B5.out.size)); clear hown hb)
          | (go_at_call 56; (with_reducible refine (sniinsert ⟨⟨ys, yn, yb, yt, yk, Q⟩, ya, ym, yc⟩ w.heap.size w.heap.size a2 n c2 L ⟨⟨ys, yn, yb, yt, yk, Q⟩, a7, ym, c7⟩ w7 S7.out Z7.out HLN.out (by omega) R7.out B7.out.size).mono ?_); rintro x w9 ⟨v9, rfl, hl, hb⟩; have S9 := Lib.hid hl; have B9 := Lib.hid (B7.out.trans hb); clear hl hb))
        go_ret2
        rw [HE.out]
        exact ⟨_, rfl, S9.out, B9.out⟩
end Go.Proofs.YtjolmjbhpokgmaaGreat.W
