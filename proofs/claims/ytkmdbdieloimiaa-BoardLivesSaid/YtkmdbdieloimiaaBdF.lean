/- LAYER 25 (board): slices.Grow, slices.Concat of shares. -/
import Derived.Test.YtkmdbdieloimiaaBdA
import Derived.Great.BuildSlice
set_option linter.unusedSimpArgs false
set_option linter.unusedVariables false
namespace Go.Proofs.Ytkmdbdieloimiaa.W
open Go Go.ChangeShapes Go.WideShapes Go.ChangeAt Go.RowKit
open Go.Proofs.Ytkmdbdieloimiaa.S

set_option maxRecDepth 100000 in
set_option maxHeartbeats 8000000 in
theorem shgrow (n : Nat) (w : World) (hn : n ≤ 100000) : Calls Try.prog 71 #[.slice none 0 0, .int .i64 (n : Int)] w fun x w' => ∃ v, x = .returned v ∧ LsO shE w' w.heap.size v [] ∧ Below w.heap.size w w' := by
  have SZ := Lib.hid sh_size
  rcases Nat.eq_zero_or_pos n with rfl | h0
  · go_enter Try.func71, Try.ntmps71
    go_wp2_with fail
    go_ret
    exact ⟨_, rfl, LsO.nil _ _, Below.refl _ _⟩
  · have g0 : (0 : Int) < (n : Int) := by omega
    have gw : IntKind.i64.wrap (n : Int) = (n : Int) := by rw [IntKind.wrap_i64]; omega
    go_enter Try.func71, Try.ntmps71
    go_wp2_with (first
      | ((with_reducible refine append_zeros0 shOk (o := ⟨some 22, _, _, _, _, _⟩) rfl (.tmp 20) (.tmp 21) 3 .i64 Try.underlying3 rfl n (n : Int) ?_ ?_ rfl h0 (by omega) ?_); (focus (first | (go_simp; done) | (go_simp; rfl))); (focus (first | (go_simp; done) | (go_simp; rfl) | (go_simp; omega))); intro w1 G hl hG hm hb; have L1 := Lib.hid hl; have B1 := Lib.hid hb; have g1 : (0 : Int) ≤ (G : Int) := by omega
         clear hl hb))
    go_ret
    exact ⟨_, rfl, L1.out, B1.out⟩
theorem shs_info : (Try.prog.info? 23).map (fun i => (i.zero, i.size, i.bytes)) = some (some (.slice none 0 0), 1, 24) := by kernel_rfl
theorem shs_size : (Try.prog.info? 23).map (·.size) = some 1 := by kernel_rfl
set_option maxRecDepth 100000 in
/-- BUILD of a slice of three slices -/
theorem shbs3 {w : World} {ops : Array Oper} {rest : List Oper} {o : Oper} {a : Act} {Q : Exit → Act → World → Prop} (hgd : o.guard = none) (x0 x1 x2 : Operand)
    (ho : o.op = .buildSlice 99 3 #[(0, x0), (1, x1), (2, x2)]) (a0 a1 a2 : Option Addr) (n0 c0 n1 c1 n2 c2 : Nat) (h0 : a.eval x0 = .slice a0 n0 c0) (h1 : a.eval x1 = .slice a1 n1 c1) (h2 : a.eval x2 = .slice a2 n2 c2)
    (hk : ∀ w', Row w' w.heap.size 23 [.slice a0 n0 c0, .slice a1 n1 c1, .slice a2 n2 c2] → Below w.heap.size w w' → w'.heap.size = w.heap.size + 1 → wpList Try.prog ops Q rest (a.put o.dst (.slice (some ⟨w.heap.size, 0, none⟩) 3 3)) w') : wpList Try.prog ops Q (o :: rest) a w := by
  obtain ⟨i0, hi0, hz0, hz1, hz2⟩ := info_parts shs_info
  refine wpList_buildSlice hgd 99 23 3 _ ho #[.slice a0 n0 c0, .slice a1 n1 c1, .slice a2 n2 c2] i0 _ Try.underlying99 hi0 hz0 (by rw [hz1]; decide) (by rw [hz1]; decide) (by rw [hz1]; simp only [List.map_toArray, List.map_cons, List.map_nil, h0, h1, h2]; go_simp; first | done | rfl) ?_
  exact hk _ (Row.new _ _ _) ((Below.refl _ _).alloc (Nat.le_refl _) _) (by simp)
theorem shk3 {w : World} {g : Nat} {t : TypeId} {a b c : Value} (h : Row w g t [a, b, c]) : w.cell? ⟨g, 0, none⟩ = some a ∧ w.cell? ⟨g, 1, none⟩ = some b ∧ w.cell? ⟨g, 2, none⟩ = some c := by
  refine ⟨?_, ?_, ?_⟩ <;> (rw [h.cellV]; rfl)
set_option maxRecDepth 100000 in
set_option maxHeartbeats 16000000 in
theorem shconcat (bx : Nat) (a0 a1 a2 : Option Addr) (n0 c0 n1 c1 n2 c2 : Nat) (L0 L1 L2 : List Sh) (w : World) (hr : Row w bx 23 [.slice a0 n0 c0, .slice a1 n1 c1, .slice a2 n2 c2]) (h0 : Ls shE w a0 n0 c0 L0) (h1 : Ls shE w a1 n1 c1 L1) (h2 : Ls shE w a2 n2 c2 L2) (hm : n0 + n1 + n2 ≤ 1000) :
    Calls Try.prog 59 #[.slice (some ⟨bx, 0, none⟩) 3 3] w fun x w' => ∃ v', x = .returned v' ∧ LsO shE w' w.heap.size v' (L0 ++ L1 ++ L2) ∧ Below w.heap.size w w' := by
  have R := Lib.hid hr
  have H0 := Lib.hid h0
  have H1 := Lib.hid h1
  have H2 := Lib.hid h2
  have E0 := Lib.hid h0.hlen
  have E1 := Lib.hid h1.hlen
  have E2 := Lib.hid h2.hlen
  have SZ := Lib.hid shs_size
  have HGR := Lib.hid (shgrow (n0 + n1 + n2))
  clear hr h0 h1 h2
  obtain ⟨k0, k1, k2⟩ := shk3 R.out
  have m0 : (n0 : Int) ≤ 1000 := by omega
  have m1 : (n1 : Int) ≤ 1000 := by omega
  have m2 : (n2 : Int) ≤ 1000 := by omega
  have m3 : (n0 : Int) + (n1 : Int) + (n2 : Int) ≤ 1000 := by omega
  have p0 : (0 : Int) ≤ (n0 : Int) := by omega
  have p1 : (0 : Int) ≤ (n1 : Int) := by omega
  have p2 : (0 : Int) ≤ (n2 : Int) := by omega
  have q1 : IntKind.i64.wrap ((n0 : Int) + (n1 : Int)) = (n0 : Int) + (n1 : Int) := by rw [IntKind.wrap_i64]; omega
  have q2 : IntKind.i64.wrap ((n0 : Int) + (n1 : Int) + (n2 : Int)) = (n0 : Int) + (n1 : Int) + (n2 : Int) := by rw [IntKind.wrap_i64]; omega
  have r1 : ¬ (n0 : Int) < 0 := by omega
  have r2 : ¬ (n0 : Int) + (n1 : Int) < 0 := by omega
  have r3 : ¬ (n0 : Int) + (n1 : Int) + (n2 : Int) < 0 := by omega
  go_enter Try.func59, Try.ntmps59
  go_wp2_with fail
  go_loop [3, 11] (fun s i => ∃ (k : Nat) (z : Int), i = .int .i64 (k : Int) ∧ s = .int .i64 z ∧ ((k = 0 ∧ z = 0) ∨ (k = 1 ∧ z = (n0 : Int)) ∨ (k = 2 ∧ z = (n0 : Int) + (n1 : Int)) ∨ (k = 3 ∧ z = (n0 : Int) + (n1 : Int) + (n2 : Int)))) (fun _ i => 3 - (intOf i).toNat)
  case atStart => exact ⟨0, 0, rfl, rfl, .inl ⟨rfl, rfl⟩⟩
  case round =>
    obtain ⟨k, z, rfl, rfl, hk⟩ := hrel
    rcases hk with ⟨rfl, rfl⟩ | ⟨rfl, rfl⟩ | ⟨rfl, rfl⟩ | ⟨rfl, rfl⟩
    · go_wp2_with fail
      go_round
      case rel => exact ⟨1, (n0 : Int), rfl, vint (by first | rfl | omega | simp), .inr (.inl ⟨rfl, rfl⟩)⟩
      case measure => simp [intOf]
    · go_wp2_with fail
      go_round
      case rel => exact ⟨2, (n0 : Int) + (n1 : Int), rfl, vint (by first | rfl | omega | simp), .inr (.inr (.inl ⟨rfl, rfl⟩))⟩
      case measure => simp [intOf]
    · go_wp2_with fail
      go_round
      case rel => exact ⟨3, (n0 : Int) + (n1 : Int) + (n2 : Int), rfl, vint (by first | rfl | omega | simp), .inr (.inr (.inr ⟨rfl, rfl⟩))⟩
      case measure => simp [intOf]
    · clear k0 k1 k2 q1 q2 r1 r2 r3
      have HGR := Lib.hid (show ∀ w, Calls Try.prog 71 #[.slice none 0 0, .int .i64 ((n0 : Int) + (n1 : Int) + (n2 : Int))] w fun x w' => ∃ v, x = .returned v ∧ LsO shE w' w.heap.size v [] ∧ Below w.heap.size w w' from fun w => by
        have := HGR.out w (by omega)
        rwa [show ((n0 + n1 + n2 : Nat) : Int) = (n0 : Int) + (n1 : Int) + (n2 : Int) by omega] at this)
      go_wp2_with (first
        | (go_at_call 71; (with_reducible refine (HGR.out _).mono ?_); rintro x w1 ⟨v1, rfl, hl, hb⟩; have O1 := Lib.hid hl; have B1 := Lib.hid hb; clear hl hb))
      go_loopw [6, 27] (fun v i wr => ∃ (k : Nat) (M : List Sh), i = .int .i64 (k : Int) ∧ Hid (LsO shE wr w.heap.size v M) ∧ Hid (Below w.heap.size w wr) ∧ ((k = 0 ∧ M = []) ∨ (k = 1 ∧ L0 = M) ∨ (k = 2 ∧ M = L0 ++ L1) ∨ (k = 3 ∧ M = L0 ++ L1 ++ L2))) (fun _ i _ => 3 - (intOf i).toNat)
      case atStart => exact ⟨0, [], rfl, O1, B1, .inl ⟨rfl, rfl⟩⟩
      case round =>
        obtain ⟨k, M, rfl, O, B, hk⟩ := hrel
        obtain ⟨k0, k1, k2⟩ := shk3 (R.out.below B.out R.out.lt)
        rcases hk with ⟨rfl, rfl⟩ | ⟨rfl, rfl⟩ | ⟨rfl, rfl⟩ | ⟨rfl, rfl⟩
        · go_wp2_with (first
            | (at_builtin; (with_reducible refine append_ls shOk (o := ⟨some 33, _, _, _, _, _⟩) rfl (.tmp 31) (.tmp 32) rfl w.heap.size u6 [] ?_ O.out a0 n0 c0 L0 ?_ (H0.out.mono shOk B.out) ?_ B.out.size ?_); (focus (first | (go_simp; done) | (go_simp; rfl))); (focus (first | (go_simp; done) | (go_simp; rfl))); (focus (simp; omega)); intro v2 w2 hN hb _ _; have N2 := Lib.hid hN; have B2 := Lib.hid (B.out.trans hb); clear hN hb))
          go_roundw
          case rel => exact ⟨1, L0, rfl, Lib.hid (by have := N2.out; rwa [List.nil_append] at this), B2, .inr (.inl ⟨rfl, rfl⟩)⟩
          case measure => simp [intOf]
        · go_wp2_with (first
            | (at_builtin; (with_reducible refine append_ls shOk (o := ⟨some 33, _, _, _, _, _⟩) rfl (.tmp 31) (.tmp 32) rfl w.heap.size u6 L0 ?_ O.out a1 n1 c1 L1 ?_ (H1.out.mono shOk B.out) ?_ B.out.size ?_); (focus (first | (go_simp; done) | (go_simp; rfl))); (focus (first | (go_simp; done) | (go_simp; rfl))); (focus (rw [E0.out]; omega)); intro v2 w2 hN hb _ _; have N2 := Lib.hid hN; have B2 := Lib.hid (B.out.trans hb); clear hN hb))
          go_roundw
          case rel => exact ⟨2, L0 ++ L1, rfl, N2, B2, .inr (.inr (.inl ⟨rfl, rfl⟩))⟩
          case measure => simp [intOf]
        · go_wp2_with (first
            | (at_builtin; (with_reducible refine append_ls shOk (o := ⟨some 33, _, _, _, _, _⟩) rfl (.tmp 31) (.tmp 32) rfl w.heap.size u6 (L0 ++ L1) ?_ O.out a2 n2 c2 L2 ?_ (H2.out.mono shOk B.out) ?_ B.out.size ?_); (focus (first | (go_simp; done) | (go_simp; rfl))); (focus (first | (go_simp; done) | (go_simp; rfl))); (focus (rw [List.length_append, E0.out, E1.out]; omega)); intro v2 w2 hN hb _ _; have N2 := Lib.hid hN; have B2 := Lib.hid (B.out.trans hb); clear hN hb))
          go_roundw
          case rel => exact ⟨3, L0 ++ L1 ++ L2, rfl, N2, B2, .inr (.inr (.inr ⟨rfl, rfl⟩))⟩
          case measure => simp [intOf]
        · go_wp2_with fail
          go_ret
          exact ⟨_, rfl, O.out, B.out⟩
end Go.Proofs.Ytkmdbdieloimiaa.W
