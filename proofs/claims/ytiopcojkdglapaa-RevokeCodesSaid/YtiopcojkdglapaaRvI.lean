/- LAYER 21 (revoke): slices.Grow, slices.Concat of ints; lists.Insert with Revoke's closure. -/
import Derived.Test.YtiopcojkdglapaaRvP
import Derived.Test.YtiopcojkdglapaaSlg
import Derived.Test.YtiopcojkdglapaaTail
import Derived.Great.BuildSlice
set_option linter.unusedSimpArgs false
set_option linter.unusedVariables false
namespace Go.Proofs.Ytiopcojkdglapaa.W
open Go Go.ChangeShapes Go.WideShapes Go.ChangeAt Go.RowKit
open Go.Proofs.Ytiopcojkdglapaa.S

theorem int_row {w : World} {g : Nat} {x : Int} (h : Row w g 3 [.int .i64 x]) (hx : SI64 x) : Sl .i64 w (some ⟨g, 0, none⟩) 1 [x] :=
  (Ls.of_rowI h rfl (Nat.le_refl 1) (by unfold maxLen; omega) (by simp [flatE]) (by simpa using hx) : Ls intE w (some ⟨g, 0, none⟩) 1 1 [x]).sl
set_option maxRecDepth 100000 in
theorem bi1r {w : World} {ops : Array Oper} {rest : List Oper} {o : Oper} {a : Act} {Q : Exit → Act → World → Prop} (hgd : o.guard = none) (x0 : Operand)
    (ho : o.op = .buildSlice 76 1 #[(0, x0)]) (v0 : Int) (h0 : a.eval x0 = .int .i64 v0) (r0 : SI64 v0)
    (hk : ∀ w', Row w' w.heap.size 3 [.int .i64 v0] → Below w.heap.size w w' → w'.heap.size = w.heap.size + 1 → wpList Try.prog ops Q rest (a.put o.dst (.slice (some ⟨w.heap.size, 0, none⟩) 1 1)) w') : wpList Try.prog ops Q (o :: rest) a w := by
  obtain ⟨i0, hi0, hz0, hz1, hz2⟩ := info_parts infoInt19
  refine wpList_buildSlice hgd 76 3 1 _ ho #[.int .i64 v0] i0 _ Try.underlying76 hi0 hz0 (by rw [hz1]; decide) (by rw [hz1]; decide) (fill_i1 w o a x0 v0 i0 hz1 h0) ?_
  exact hk _ (Row.new _ _ _) ((Below.refl _ _).alloc (Nat.le_refl _) _) (by simp)
set_option maxRecDepth 100000 in
set_option maxHeartbeats 8000000 in
theorem rvigrow (n : Nat) (w : World) (hn : n ≤ 100000) : Calls Try.prog 156 #[.slice none 0 0, .int .i64 (n : Int)] w fun x w' => ∃ v, x = .returned v ∧ LsO intE w' w.heap.size v [] ∧ Below w.heap.size w w' := by
  have SZ := Lib.hid int_size
  rcases Nat.eq_zero_or_pos n with rfl | h0
  · go_enter Try.func156, Try.ntmps156
    go_wp2_with fail
    go_ret
    exact ⟨_, rfl, LsO.nil _ _, Below.refl _ _⟩
  · have g0 : (0 : Int) < (n : Int) := by omega
    have gw : IntKind.i64.wrap (n : Int) = (n : Int) := by rw [IntKind.wrap_i64]; omega
    go_enter Try.func156, Try.ntmps156
    go_wp2_with (first
      | ((with_reducible refine append_zeros0 intOk (o := ⟨some 22, _, _, _, _, _⟩) rfl (.tmp 20) (.tmp 21) 3 .i64 Try.underlying3 rfl n (n : Int) ?_ ?_ rfl h0 (by omega) ?_); (focus (first | (go_simp; done) | (go_simp; rfl))); (focus (first | (go_simp; done) | (go_simp; rfl) | (go_simp; omega))); intro w1 G hl hG hm hb; have L1 := Lib.hid hl; have B1 := Lib.hid hb; have g1 : (0 : Int) ≤ (G : Int) := by omega
         clear hl hb))
    go_ret
    exact ⟨_, rfl, L1.out, B1.out⟩
theorem rvis_info : (Try.prog.info? 76).map (fun i => (i.zero, i.size, i.bytes)) = some (some (.slice none 0 0), 1, 24) := by kernel_rfl
theorem rvis_size : (Try.prog.info? 76).map (·.size) = some 1 := by kernel_rfl
set_option maxRecDepth 100000 in
/-- BUILD of a slice of three slices -/
theorem rvibs3 {w : World} {ops : Array Oper} {rest : List Oper} {o : Oper} {a : Act} {Q : Exit → Act → World → Prop} (hgd : o.guard = none) (x0 x1 x2 : Operand)
    (ho : o.op = .buildSlice 159 3 #[(0, x0), (1, x1), (2, x2)]) (a0 a1 a2 : Option Addr) (n0 c0 n1 c1 n2 c2 : Nat) (h0 : a.eval x0 = .slice a0 n0 c0) (h1 : a.eval x1 = .slice a1 n1 c1) (h2 : a.eval x2 = .slice a2 n2 c2)
    (hk : ∀ w', Row w' w.heap.size 76 [.slice a0 n0 c0, .slice a1 n1 c1, .slice a2 n2 c2] → Below w.heap.size w w' → w'.heap.size = w.heap.size + 1 → wpList Try.prog ops Q rest (a.put o.dst (.slice (some ⟨w.heap.size, 0, none⟩) 3 3)) w') : wpList Try.prog ops Q (o :: rest) a w := by
  obtain ⟨i0, hi0, hz0, hz1, hz2⟩ := info_parts rvis_info
  refine wpList_buildSlice hgd 159 76 3 _ ho #[.slice a0 n0 c0, .slice a1 n1 c1, .slice a2 n2 c2] i0 _ Try.underlying159 hi0 hz0 (by rw [hz1]; decide) (by rw [hz1]; decide) (by rw [hz1]; simp only [List.map_toArray, List.map_cons, List.map_nil, h0, h1, h2]; go_simp; first | done | rfl) ?_
  exact hk _ (Row.new _ _ _) ((Below.refl _ _).alloc (Nat.le_refl _) _) (by simp)
theorem rvik3 {w : World} {g : Nat} {t : TypeId} {a b c : Value} (h : Row w g t [a, b, c]) : w.cell? ⟨g, 0, none⟩ = some a ∧ w.cell? ⟨g, 1, none⟩ = some b ∧ w.cell? ⟨g, 2, none⟩ = some c := by
  refine ⟨?_, ?_, ?_⟩ <;> (rw [h.cellV]; rfl)
set_option maxRecDepth 100000 in
set_option maxHeartbeats 16000000 in
theorem rviconcat (bx : Nat) (a0 a1 a2 : Option Addr) (n0 c0 n1 c1 n2 c2 : Nat) (L0 L1 L2 : List Int) (w : World) (hr : Row w bx 76 [.slice a0 n0 c0, .slice a1 n1 c1, .slice a2 n2 c2]) (h0 : Ls intE w a0 n0 c0 L0) (h1 : Ls intE w a1 n1 c1 L1) (h2 : Ls intE w a2 n2 c2 L2) (hm : n0 + n1 + n2 ≤ 1000) :
    Calls Try.prog 152 #[.slice (some ⟨bx, 0, none⟩) 3 3] w fun x w' => ∃ v', x = .returned v' ∧ LsO intE w' w.heap.size v' (L0 ++ L1 ++ L2) ∧ Below w.heap.size w w' := by
  have R := Lib.hid hr
  have H0 := Lib.hid h0
  have H1 := Lib.hid h1
  have H2 := Lib.hid h2
  have E0 := Lib.hid h0.hlen
  have E1 := Lib.hid h1.hlen
  have E2 := Lib.hid h2.hlen
  have SZ := Lib.hid rvis_size
  have HGR := Lib.hid (rvigrow (n0 + n1 + n2))
  clear hr h0 h1 h2
  obtain ⟨k0, k1, k2⟩ := rvik3 R.out
  have m0 : (n0 : Int) ≤ 1000 := by omega
  have m1 : (n1 : Int) ≤ 1000 := by omega
  have m2 : (n2 : Int) ≤ 1000 := by omega
  have m3 : (n0 : Int) + (n1 : Int) + (n2 : Int) ≤ 1000 := by omega
  have p0 : (0 : Int) ≤ (n0 : Int) := by omega
  have p1 : (0 : Int) ≤ (n1 : Int) := by omega
  have p2 : (0 : Int) ≤ (n2 : Int) := by omega
  have q1 : IntKind.i64.wrap ((n0 : Int) + (n1 : Int)) = (n0 : Int) + (n1 : Int) := by rw [IntKind.wrap_i64]; omega
  have q2 : IntKind.i64.wrap ((n0 : Int) + (n1 : Int) + (n2 : Int)) = (n0 : Int) + (n1 : Int) + (n2 : Int) := by rw [IntKind.wrap_i64]; omega
  have r1 : ¬ (n0 : Int) < 0 := by omega
  have r2 : ¬ (n0 : Int) + (n1 : Int) < 0 := by omega
  have r3 : ¬ (n0 : Int) + (n1 : Int) + (n2 : Int) < 0 := by omega
  go_enter Try.func152, Try.ntmps152
  go_wp2_with fail
  go_loop [3, 11] (fun s i => ∃ (k : Nat) (z : Int), i = .int .i64 (k : Int) ∧ s = .int .i64 z ∧ ((k = 0 ∧ z = 0) ∨ (k = 1 ∧ z = (n0 : Int)) ∨ (k = 2 ∧ z = (n0 : Int) + (n1 : Int)) ∨ (k = 3 ∧ z = (n0 : Int) + (n1 : Int) + (n2 : Int)))) (fun _ i => 3 - (intOf i).toNat)
  case atStart => exact ⟨0, 0, rfl, rfl, .inl ⟨rfl, rfl⟩⟩
  case round =>
    obtain ⟨k, z, rfl, rfl, hk⟩ := hrel
    rcases hk with ⟨rfl, rfl⟩ | ⟨rfl, rfl⟩ | ⟨rfl, rfl⟩ | ⟨rfl, rfl⟩
    · go_wp2_with fail
      go_round
      case rel => exact ⟨1, (n0 : Int), rfl, vint (by first | rfl | omega | simp), .inr (.inl ⟨rfl, rfl⟩)⟩
      case measure => simp [intOf]
    · go_wp2_with fail
      go_round
      case rel => exact ⟨2, (n0 : Int) + (n1 : Int), rfl, vint (by first | rfl | omega | simp), .inr (.inr (.inl ⟨rfl, rfl⟩))⟩
      case measure => simp [intOf]
    · go_wp2_with fail
      go_round
      case rel => exact ⟨3, (n0 : Int) + (n1 : Int) + (n2 : Int), rfl, vint (by first | rfl | omega | simp), .inr (.inr (.inr ⟨rfl, rfl⟩))⟩
      case measure => simp [intOf]
    · clear k0 k1 k2 q1 q2 r1 r2 r3
      have HGR := Lib.hid (show ∀ w, Calls Try.prog 156 #[.slice none 0 0, .int .i64 ((n0 : Int) + (n1 : Int) + (n2 : Int))] w fun x w' => ∃ v, x = .returned v ∧ LsO intE w' w.heap.size v [] ∧ Below w.heap.size w w' from fun w => by
        have := HGR.out w (by omega)
        rwa [show ((n0 + n1 + n2 : Nat) : Int) = (n0 : Int) + (n1 : Int) + (n2 : Int) by omega] at this)
      go_wp2_with (first
        | (go_at_call 156; (with_reducible refine (HGR.out _).mono ?_); rintro x w1 ⟨v1, rfl, hl, hb⟩; have O1 := Lib.hid hl; have B1 := Lib.hid hb; clear hl hb))
      go_loopw [6, 27] (fun v i wr => ∃ (k : Nat) (M : List Int), i = .int .i64 (k : Int) ∧ Hid (LsO intE wr w.heap.size v M) ∧ Hid (Below w.heap.size w wr) ∧ ((k = 0 ∧ M = []) ∨ (k = 1 ∧ L0 = M) ∨ (k = 2 ∧ M = L0 ++ L1) ∨ (k = 3 ∧ M = L0 ++ L1 ++ L2))) (fun _ i _ => 3 - (intOf i).toNat)
      case atStart => exact ⟨0, [], rfl, O1, B1, .inl ⟨rfl, rfl⟩⟩
      case round =>
        obtain ⟨k, M, rfl, O, B, hk⟩ := hrel
        obtain ⟨k0, k1, k2⟩ := rvik3 (R.out.below B.out R.out.lt)
        rcases hk with ⟨rfl, rfl⟩ | ⟨rfl, rfl⟩ | ⟨rfl, rfl⟩ | ⟨rfl, rfl⟩
        · go_wp2_with (first
            | (at_builtin; (with_reducible refine append_ls intOk (o := ⟨some 33, _, _, _, _, _⟩) rfl (.tmp 31) (.tmp 32) rfl w.heap.size u6 [] ?_ O.out a0 n0 c0 L0 ?_ (H0.out.mono intOk B.out) ?_ B.out.size ?_); (focus (first | (go_simp; done) | (go_simp; rfl))); (focus (first | (go_simp; done) | (go_simp; rfl))); (focus (simp; omega)); intro v2 w2 hN hb _ _; have N2 := Lib.hid hN; have B2 := Lib.hid (B.out.trans hb); clear hN hb))
          go_roundw
          case rel => exact ⟨1, L0, rfl, Lib.hid (by have := N2.out; rwa [List.nil_append] at this), B2, .inr (.inl ⟨rfl, rfl⟩)⟩
          case measure => simp [intOf]
        · go_wp2_with (first
            | (at_builtin; (with_reducible refine append_ls intOk (o := ⟨some 33, _, _, _, _, _⟩) rfl (.tmp 31) (.tmp 32) rfl w.heap.size u6 L0 ?_ O.out a1 n1 c1 L1 ?_ (H1.out.mono intOk B.out) ?_ B.out.size ?_); (focus (first | (go_simp; done) | (go_simp; rfl))); (focus (first | (go_simp; done) | (go_simp; rfl))); (focus (rw [E0.out]; omega)); intro v2 w2 hN hb _ _; have N2 := Lib.hid hN; have B2 := Lib.hid (B.out.trans hb); clear hN hb))
          go_roundw
          case rel => exact ⟨2, L0 ++ L1, rfl, N2, B2, .inr (.inr (.inl ⟨rfl, rfl⟩))⟩
          case measure => simp [intOf]
        · go_wp2_with (first
            | (at_builtin; (with_reducible refine append_ls intOk (o := ⟨some 33, _, _, _, _, _⟩) rfl (.tmp 31) (.tmp 32) rfl w.heap.size u6 (L0 ++ L1) ?_ O.out a2 n2 c2 L2 ?_ (H2.out.mono intOk B.out) ?_ B.out.size ?_); (focus (first | (go_simp; done) | (go_simp; rfl))); (focus (first | (go_simp; done) | (go_simp; rfl))); (focus (rw [List.length_append, E0.out, E1.out]; omega)); intro v2 w2 hN hb _ _; have N2 := Lib.hid hN; have B2 := Lib.hid (B.out.trans hb); clear hN hb))
          go_roundw
          case rel => exact ⟨3, L0 ++ L1 ++ L2, rfl, N2, B2, .inr (.inr (.inr ⟨rfl, rfl⟩))⟩
          case measure => simp [intOf]
        · go_wp2_with fail
          go_ret
          exact ⟨_, rfl, O.out, B.out⟩
set_option maxRecDepth 100000 in
set_option maxHeartbeats 16000000 in
theorem rvinsert (id : Int) (g : Nat) (a : Option Addr) (n c : Nat) (L : List Int) (w : World) (h : Ls intE w a n c L) (hs : SI64 id) (hg : Row w g 3 [.int .i64 id]) (hn : n ≤ 900) :
    Calls Try.prog 126 #[.slice a n c, .int .i64 id, .func (.func 127) #[] #[.pointer (some ⟨g, 0, none⟩)]] w fun x w' => ∃ v', x = .returned v' ∧ LsO intE w' w.heap.size v' (insI id L) ∧ Below w.heap.size w w' := by
  have H := Lib.hid h
  have HS := Lib.hid hs
  have hm := h.hmax
  have hle := h.hle
  obtain ⟨q, k1, k2, k3, k4⟩ := insI_split id L
  have hq : q ≤ n := by rw [← h.hlen]; exact k1
  obtain ⟨z, hz, hz2⟩ : ∃ z : Int, z = (if q = n then -1 else (q : Int)) ∧ ((z = -1 ∧ (n : Int) = (q : Int)) ∨ z = (q : Int)) := by
    by_cases hqn : q = n
    · exact ⟨-1, (if_pos hqn).symm, .inl ⟨rfl, by omega⟩⟩
    · exact ⟨(q : Int), (if_neg hqn).symm, .inr rfl⟩
  have HI := Lib.hid (iidx id g a n c L w h.sl hg q hq k3 k4 z hz)
  rw [k2]
  obtain ⟨M, hM⟩ : ∃ M, L.take q ++ [id] ++ L.drop q = M := ⟨_, rfl⟩
  rw [hM]
  have HM := Lib.hid hM
  have gn : (0 : Int) ≤ (n : Int) := by omega
  have gq0 : (0 : Int) ≤ (q : Int) := by omega
  have gq : (q : Int) ≤ (n : Int) := by omega
  have gc : (q : Int) ≤ (c : Int) := by omega
  have gq1 : ¬ (q : Int) < 0 := by omega
  clear h hs hg k1 k2 k3 k4 hM hz
  rcases hz2 with ⟨rfl, hqn⟩ | rfl
  all_goals
    first
      | (have HQE := Lib.hid hqn; clear hqn)
      | skip
    go_enter Try.func126, Try.ntmps126
    go_wp2_with (go_at_call 151; (with_reducible refine HI.out.mono ?_); rintro x w' ⟨rfl, rfl⟩)
    try rw [HQE.out]
    refine region_h (fun v => Below w.heap.size w v) (by kernel_rfl) (by kernel_rfl) (Below.refl _ _).drew ?_
    obtain ⟨wd, hwd⟩ : ∃ wd, w.drew = wd := ⟨_, rfl⟩
    have D0 : Hid (Below w.heap.size w wd) := Lib.hid (by rw [← hwd]; exact (Below.refl _ _).drew)
    rw [hwd]
    clear hwd
    (refine h_read 0 rfl (by kernel_rfl) (by kernel_rfl) (h_free rfl) ?_ ?_ ?_; rotate_left; (focus (intro v hv; go_simp; rfl)); go_simp)
    (refine h_read 1 rfl (by kernel_rfl) (by kernel_rfl) (h_free rfl) ?_ ?_ ?_; rotate_left; (focus (intro v hv; go_simp; rfl)); go_simp)
    (refine h_read 2 rfl (by kernel_rfl) (by kernel_rfl) (h_free rfl) (.slice a q c) ?_ ?_; (focus (intro v hv; go_simp; first | done | rfl | (intro hh; exfalso; omega) | omega)); go_simp)
    (refine h_read 3 rfl (by kernel_rfl) (by kernel_rfl) (h_free rfl) ?_ ?_ ?_; rotate_left; (focus (intro v hv; go_simp; rfl)); go_simp)
    (refine h_read 5 rfl (by kernel_rfl) (by kernel_rfl) (h_free rfl) ?_ ?_ ?_; rotate_left; (focus (intro v hv; go_simp; rfl)); go_simp)
    (refine h_read 6 rfl (by kernel_rfl) (by kernel_rfl) (h_free rfl) ?_ ?_ ?_; rotate_left; (focus (intro v hv; go_simp; rfl)); go_simp)
    (refine h_read 7 rfl (by kernel_rfl) (by kernel_rfl) (h_free rfl) (.slice (if c = q then a else a.map (fun x => x.add (q * intE.k))) (n - q) (c - q)) ?_ ?_; (focus (intro v hv; go_simp; first | done | rfl | (intro hh; exfalso; omega) | omega)); go_simp)
    (refine h_list 4 rfl (by kernel_rfl) ?_; intro K hK)
    refine bi1r (o := ⟨some 19, _, _, _, _, _⟩) rfl _ rfl id ?_ HS.out ?_
    · first | (go_simp; done) | (go_simp; rfl)
    intro w3 hr hb hz
    have X3 := Lib.hid (show Ls intE w3 (some ⟨wd.heap.size, 0, none⟩) 1 1 [id] from Ls.of_rowI hr rfl (Nat.le_refl 1) (by unfold maxLen; omega) (by simp [flatE]) (by simpa using HS.out))
    have D3 := Lib.hid (D0.out.trans (hb.mono D0.out.size))
    clear hr hb hz
    refine hK _ _ D3.out ?_
    go_simp
    (refine h_list 8 rfl (by kernel_rfl) ?_; intro K hK)
    refine rvibs3 (o := ⟨some 23, _, _, _, _, _⟩) rfl _ _ _ rfl a (some ⟨wd.heap.size, 0, none⟩) (if c = q then a else a.map (fun x => x.add (q * intE.k))) q c 1 1 (n - q) (c - q) ?_ ?_ ?_ ?_
    · first | (go_simp; done) | (go_simp; rfl)
    · first | (go_simp; done) | (go_simp; rfl)
    · first | (go_simp; done) | (go_simp; rfl)
    intro w4 hr hb hz
    have R4 := Lib.hid hr
    have X4 := Lib.hid (X3.out.mono intOk hb)
    have D4 := Lib.hid (D3.out.trans (hb.mono D3.out.size))
    have LW := Lib.hid (H.out.mono intOk D4.out)
    clear hr hb hz
    refine hK _ _ D4.out ?_
    go_simp
    (refine h_call 9 rfl (by kernel_rfl) (h_free rfl) 152 ?_ ?_ ?_; rotate_left; (focus (go_simp; rfl)))
    refine (rviconcat w3.heap.size a (some ⟨wd.heap.size, 0, none⟩) (if c = q then a else a.map (fun x => x.add (q * intE.k))) q c 1 1 (n - q) (c - q) (L.take q) [id] (L.drop q) w4 R4.out (LW.out.first q hq) X4.out (LW.out.rest q hq) (by omega)).mono ?_
    rintro x w5 ⟨v5, rfl, hl, hb⟩
    have D5 := Lib.hid (D4.out.trans (hb.mono D4.out.size))
    have N5 := Lib.hid (by (have hq5 := hl.base D4.out.size); rw [HM.out] at hq5; exact hq5)
    clear hl hb
    refine ⟨_, rfl, D5.out, ?_⟩
    go_simp
    (refine h_read 10 rfl (by kernel_rfl) (by kernel_rfl) (h_free rfl) ?_ ?_ ?_; rotate_left; (focus (intro v hv; go_simp; rfl)); go_simp)
    refine h_done (by kernel_rfl) ?_
    go_wp2_with fail
    all_goals
      go_ret
      exact ⟨_, rfl, N5.out, D5.out⟩
end Go.Proofs.Ytiopcojkdglapaa.W
