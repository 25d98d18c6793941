/- LAYER 20 (manifest): pieces: Same of both, of any lists. -/
import Derived.Test.YtjolmjbhpokgmaaGreatMfA
import Derived.Test.YtjolmjbhpokgmaaGreatRun
import Derived.Test.YtjolmjbhpokgmaaGreatTail
import Derived.Test.YtjolmjbhpokgmaaGreatCavS
set_option linter.unusedSimpArgs false
set_option linter.unusedVariables false
namespace Go.Proofs.YtjolmjbhpokgmaaGreat.W
open Go Go.ChangeShapes Go.WideShapes Go.ChangeAt Go.RowKit
open Go.Proofs.YtjolmjbhpokgmaaGreat.S

theorem pc_next (L M : List Pc) (k : Nat) (x : Pc) (h1 : L[k]? = some x) (h2 : M[k]? = some x) (e : L.take k = M.take k) : L.take (k + 1) = M.take (k + 1) := by
  obtain ⟨a1, a2⟩ := List.getElem?_eq_some_iff.1 h1
  obtain ⟨b1, b2⟩ := List.getElem?_eq_some_iff.1 h2
  rw [List.take_succ_eq_append_getElem a1, List.take_succ_eq_append_getElem b1, a2, b2, e]
set_option maxRecDepth 100000 in
theorem eqPc (p q : Pc) (hp : p.fit) (hq : q.fit) (d : Bool) (hd : d = true ↔ p = q) (w : World) : (Op.equalIn 10000 47 (.agg p.cells.toArray) (.agg q.cells.toArray)).run Tryz.prog w = .ok d w := by
  have key : ∀ c : Pc, c.fit → Tryz.prog.keyLits 3 47 (Value.agg c.cells.toArray).cells.toList = some [Lit.string c.sum.data.toList, Lit.int .i64 c.size] := fun c hc => by
    have e := i64_wf hc.size
    have hs := hc.sum
    have c2 : Tryz.prog.cellsOf 47 = 2 := by kernel_rfl
    have ci : Tryz.prog.cellsOf 3 = 1 := by kernel_rfl
    have cs : Tryz.prog.cellsOf 9 = 1 := by kernel_rfl
    simp [Program.keyLits, Value.cells, Tryz.underlying47, Tryz.underlying3, Tryz.underlying9, c2, ci, cs, e, hs]
  obtain ⟨r, hr, hiff⟩ := run_equalIn_deep (P := Tryz.prog) 9998 2 47 (by kernel_rfl) w 2 2 (.agg _) (.agg _) _ _ rfl rfl (key p hp) (key q hq)
  have : r = d := by
    rw [Bool.eq_iff_iff, hiff, hd]
    obtain ⟨⟨⟨x⟩⟩, z⟩ := p
    obtain ⟨⟨⟨x'⟩⟩, z'⟩ := q
    simp
  rw [← this]; exact hr
set_option maxRecDepth 100000 in
set_option maxHeartbeats 16000000 in
theorem pceqV (a a' : Option Addr) (n c n' c' : Nat) (L M : List Pc) (V : Bool) (w : World) (h1 : Ls pcE w a n c L) (h2 : Ls pcE w a' n' c' M) (hV : V = true ↔ L = M) :
    Calls Tryz.prog 50 #[.slice a n c, .slice a' n' c'] w fun x w' => x = .returned (.bool V) ∧ Below w.heap.size w w' := by
  have H1 := Lib.hid h1
  have H2 := Lib.hid h2
  have L1 := Lib.hid h1.hlen
  have L2 := Lib.hid h2.hlen
  have HV := Lib.hid hV
  have hm := h1.hmax
  have hle := h1.hle
  have hm2 := h2.hmax
  have hle2 := h2.hle
  clear h1 h2 hV
  by_cases hn : n = n'
  case neg =>
    have HF := Lib.hid (show V = false by
      cases hh : V with
      | false => rfl
      | true => exact absurd (by rw [← L1.out, ← L2.out, HV.out.1 hh]) hn)
    have gn : ((n : Int) == (n' : Int)) = false := beq_eq_false_iff_ne.2 (by omega)
    have gm : ¬ ((n : Int) = (n' : Int)) := by omega
    clear HV
    go_enter Tryz.func50, Tryz.ntmps50
    go_wp2_with fail
    go_ret
    exact ⟨one (vbool (by rw [HF.out])), Below.refl _ _⟩
  subst hn
  go_enter Tryz.func50, Tryz.ntmps50
  go_wp2_with fail
  go_loopw [13] (fun i wr => ∃ k : Nat, i = .int .i64 (k : Int) ∧ k ≤ n ∧ Hid (L.take k = M.take k) ∧ Hid (Below w.heap.size w wr)) (fun i _ => n - (intOf i).toNat)
  case atStart => exact ⟨0, rfl, Nat.zero_le _, Lib.hid rfl, Lib.hid (Below.refl _ _)⟩
  case round =>
    obtain ⟨k, rfl, hk, T, B⟩ := hrel
    by_cases hlt : k < n
    · obtain ⟨b, o, x, rfl, hx1, hc1, f1⟩ := H1.out.at pcOk B.out k hlt
      obtain ⟨b', o', y, rfl, hx2, hc2, f2⟩ := H2.out.at pcOk B.out k hlt
      obtain ⟨d, hd⟩ : ∃ d : Bool, d = true ↔ x = y := by
        by_cases e : x = y
        · exact ⟨true, by simp [e]⟩
        · exact ⟨false, by simp [e]⟩
      have hq := eqPc x y f1 f2 d hd
      have HNX := Lib.hid (show d = true → L.take (k + 1) = M.take (k + 1) from fun e => pc_next L M k x hx1 (by rw [hd.1 e]; exact hx2) T.out)
      have HBD := Lib.hid (show d = false → V = false from fun e => by
        cases hh : V with
        | false => rfl
        | true =>
          have e2 := HV.out.1 hh
          rw [e2, hx2] at hx1
          have e3 := hd.2 (Option.some.inj hx1).symm
          rw [e] at e3; cases e3)
      have X1 := Lib.hid hc1
      have X2 := Lib.hid hc2
      obtain ⟨xs, xz⟩ := x
      obtain ⟨ys, yz⟩ := y
      obtain ⟨XA, hXA⟩ : ∃ X : Array Value, (Pc.cells ⟨xs, xz⟩).toArray = X := ⟨_, rfl⟩
      obtain ⟨YA, hYA⟩ : ∃ X : Array Value, (Pc.cells ⟨ys, yz⟩).toArray = X := ⟨_, rfl⟩
      rw [hXA, hYA] at hq
      have XE := Lib.hid hXA
      have YE := Lib.hid hYA
      have g1 : (0 : Int) ≤ (k : Int) := by omega
      have g2 : (k : Int) < (n : Int) := by omega
      clear hc1 hc2 hx1 hx2 hd f1 f2 hXA hYA
      go_wp2_with fail
      refine region_h (fun v => Below wr.heap.size wr v) (by kernel_rfl) (by kernel_rfl) (Below.refl _ _).drew ?_
      obtain ⟨wd, hwd⟩ : ∃ wd, wr.drew = wd := ⟨_, rfl⟩
      have D0 : Hid (Below wr.heap.size wr wd) := Lib.hid (by rw [← hwd]; exact (Below.refl _ _).drew)
      rw [hwd]
      clear hwd
      (refine h_read 0 rfl (by kernel_rfl) (by kernel_rfl) (h_free rfl) ?_ ?_ ?_; rotate_left; (focus (intro v hv; go_simp; rfl)); go_simp)
      (refine h_read 1 rfl (by kernel_rfl) (by kernel_rfl) (h_free rfl) ?_ ?_ ?_; rotate_left; (focus (intro v hv; go_simp; rfl)); go_simp)
      (refine h_read 2 rfl (by kernel_rfl) (by kernel_rfl) (h_free rfl) ?_ ?_ ?_; rotate_left; (focus (intro v hv; go_simp; rfl)); go_simp)
      (refine h_read 3 rfl (by kernel_rfl) (by kernel_rfl) (h_free rfl) (.agg XA) ?_ ?_; (focus (intro v hv; rw [← XE.out]; refine run_cells 47 (.tmp 18) ?_ b (o + k * 2) ?_ (Pc.cells ⟨xs, xz⟩) _ (fun j' u hj => by rw [hv.cell (p := ⟨b, o + k * 2 + j', none⟩) (World.block_lt_of_cell? wr _ (X1.out j' u hj))]; exact X1.out j' u hj) Tryz.underlying47 rfl pc_size; (focus rfl); go_simp)); go_simp)
      (refine h_read 4 rfl (by kernel_rfl) (by kernel_rfl) (h_free rfl) ?_ ?_ ?_; rotate_left; (focus (intro v hv; go_simp; rfl)); go_simp)
      (refine h_read 5 rfl (by kernel_rfl) (by kernel_rfl) (h_free rfl) ?_ ?_ ?_; rotate_left; (focus (intro v hv; go_simp; rfl)); go_simp)
      (refine h_read 6 rfl (by kernel_rfl) (by kernel_rfl) (h_free rfl) ?_ ?_ ?_; rotate_left; (focus (intro v hv; go_simp; rfl)); go_simp)
      (refine h_read 7 rfl (by kernel_rfl) (by kernel_rfl) (h_free rfl) (.agg YA) ?_ ?_; (focus (intro v hv; rw [← YE.out]; refine run_cells 47 (.tmp 22) ?_ b' (o' + k * 2) ?_ (Pc.cells ⟨ys, yz⟩) _ (fun j' u hj => by rw [hv.cell (p := ⟨b', o' + k * 2 + j', none⟩) (World.block_lt_of_cell? wr _ (X2.out j' u hj))]; exact X2.out j' u hj) Tryz.underlying47 rfl pc_size; (focus rfl); go_simp)); go_simp)
      (refine h_read 8 rfl (by kernel_rfl) (by kernel_rfl) (h_free rfl) (.bool (!d)) ?_ ?_; (focus (intro v hv; first | (go_simp; done) | (go_simp; rfl) | (go_simp; simp))); go_simp)
      refine h_done (by kernel_rfl) ?_
      have BD := Lib.hid (B.out.trans (D0.out.mono B.out.size))
      cases d
      · have HF := Lib.hid (HBD.out rfl)
        clear HNX HBD hq
        go_wp2_with fail
        go_ret
        exact ⟨one (vbool (by rw [HF.out])), BD.out⟩
      · have HN := Lib.hid (HNX.out rfl)
        clear HNX HBD hq
        go_wp2_with fail
        go_roundw
        case rel => exact ⟨k + 1, vint (by omega), by omega, HN, BD⟩
        case measure => simp [intOf]; omega
    · obtain rfl : n = k := by omega
      have e1 : L.take n = L := List.take_of_length_le (by rw [L1.out]; exact Nat.le_refl _)
      have e2 : M.take n = M := List.take_of_length_le (by rw [L2.out]; exact Nat.le_refl _)
      have HT := Lib.hid (show V = true from HV.out.2 (by have := T.out; rw [e1, e2] at this; exact this))
      clear e1 e2
      go_wp2_with fail
      go_ret
      exact ⟨one (vbool (by rw [HT.out])), B.out⟩
set_option maxRecDepth 100000 in
theorem psamepV (a a' : Option Addr) (n c n' c' : Nat) (L M : List Pc) (V : Bool) (w : World) (h1 : Ls pcE w a n c L) (h2 : Ls pcE w a' n' c' M) (hV : V = true ↔ L = M) :
    Calls Tryz.prog 24 #[.slice a n c, .slice a' n' c'] w fun x w' => x = .returned (.bool V) ∧ Below w.heap.size w w' := by
  have HE := Lib.hid (pceqV a a' n c n' c' L M V w h1 h2 hV)
  clear h1 h2 hV
  go_enter Tryz.func24, Tryz.ntmps24
  go_wp2_with (first
    | (go_at_call 50; (with_reducible refine HE.out.mono ?_); rintro x w1 ⟨rfl, hb⟩; have B1 := Lib.hid hb; clear hb))
  go_ret
  exact ⟨rfl, B1.out⟩
set_option maxRecDepth 100000 in
set_option maxHeartbeats 16000000 in
theorem usamepV (a a' : Option Addr) (n c n' c' : Nat) (L M : List Pc) (V : Bool) (w : World) (h1 : Ls pcE w a n c L) (h2 : Ls pcE w a' n' c' M) (hV : V = true ↔ L = M) :
    Calls Tryz.prog 17 #[.slice a n c, .slice a' n' c'] w fun x w' => x = .returned (.bool V) ∧ Below w.heap.size w w' := by
  have H1 := Lib.hid h1
  have H2 := Lib.hid h2
  have L1 := Lib.hid h1.hlen
  have L2 := Lib.hid h2.hlen
  have HV := Lib.hid hV
  have hm := h1.hmax
  have hle := h1.hle
  have hm2 := h2.hmax
  have hle2 := h2.hle
  clear h1 h2 hV
  by_cases hn : n = n'
  case neg =>
    have HF := Lib.hid (show V = false by
      cases hh : V with
      | false => rfl
      | true => exact absurd (by rw [← L1.out, ← L2.out, HV.out.1 hh]) hn)
    have gn : ((n : Int) == (n' : Int)) = false := beq_eq_false_iff_ne.2 (by omega)
    have gm : ¬ ((n : Int) = (n' : Int)) := by omega
    clear HV
    go_enter Tryz.func17, Tryz.ntmps17
    go_wp2_with fail
    go_ret
    exact ⟨one (vbool (by rw [HF.out])), Below.refl _ _⟩
  subst hn
  go_enter Tryz.func17, Tryz.ntmps17
  go_wp2_with fail
  go_loopw [5] (fun i wr => ∃ k : Nat, i = .int .i64 (k : Int) ∧ k ≤ n ∧ Hid (L.take k = M.take k) ∧ Hid (Below w.heap.size w wr)) (fun i _ => n - (intOf i).toNat)
  case atStart => exact ⟨0, rfl, Nat.zero_le _, Lib.hid rfl, Lib.hid (Below.refl _ _)⟩
  case round =>
    obtain ⟨k, rfl, hk, T, B⟩ := hrel
    by_cases hlt : k < n
    · obtain ⟨b, o, x, rfl, hx1, hc1, f1⟩ := H1.out.at pcOk B.out k hlt
      obtain ⟨b', o', y, rfl, hx2, hc2, f2⟩ := H2.out.at pcOk B.out k hlt
      obtain ⟨d, hd⟩ : ∃ d : Bool, d = true ↔ x = y := by
        by_cases e : x = y
        · exact ⟨true, by simp [e]⟩
        · exact ⟨false, by simp [e]⟩
      have hq := eqPc x y f1 f2 d hd
      have HNX := Lib.hid (show d = true → L.take (k + 1) = M.take (k + 1) from fun e => pc_next L M k x hx1 (by rw [hd.1 e]; exact hx2) T.out)
      have HBD := Lib.hid (show d = false → V = false from fun e => by
        cases hh : V with
        | false => rfl
        | true =>
          have e2 := HV.out.1 hh
          rw [e2, hx2] at hx1
          have e3 := hd.2 (Option.some.inj hx1).symm
          rw [e] at e3; cases e3)
      have X1 := Lib.hid hc1
      have X2 := Lib.hid hc2
      obtain ⟨xs, xz⟩ := x
      obtain ⟨ys, yz⟩ := y
      obtain ⟨XA, hXA⟩ : ∃ X : Array Value, (Pc.cells ⟨xs, xz⟩).toArray = X := ⟨_, rfl⟩
      obtain ⟨YA, hYA⟩ : ∃ X : Array Value, (Pc.cells ⟨ys, yz⟩).toArray = X := ⟨_, rfl⟩
      rw [hXA, hYA] at hq
      have XE := Lib.hid hXA
      have YE := Lib.hid hYA
      have g1 : (0 : Int) ≤ (k : Int) := by omega
      have g2 : (k : Int) < (n : Int) := by omega
      clear hc1 hc2 hx1 hx2 hd f1 f2 hXA hYA
      go_wp2_with fail
      refine region_h (fun v => Below wr.heap.size wr v) (by kernel_rfl) (by kernel_rfl) (Below.refl _ _).drew ?_
      obtain ⟨wd, hwd⟩ : ∃ wd, wr.drew = wd := ⟨_, rfl⟩
      have D0 : Hid (Below wr.heap.size wr wd) := Lib.hid (by rw [← hwd]; exact (Below.refl _ _).drew)
      rw [hwd]
      clear hwd
      (refine h_read 0 rfl (by kernel_rfl) (by kernel_rfl) (h_free rfl) ?_ ?_ ?_; rotate_left; (focus (intro v hv; go_simp; rfl)); go_simp)
      (refine h_read 1 rfl (by kernel_rfl) (by kernel_rfl) (h_free rfl) ?_ ?_ ?_; rotate_left; (focus (intro v hv; go_simp; rfl)); go_simp)
      (refine h_read 2 rfl (by kernel_rfl) (by kernel_rfl) (h_free rfl) ?_ ?_ ?_; rotate_left; (focus (intro v hv; go_simp; rfl)); go_simp)
      (refine h_read 3 rfl (by kernel_rfl) (by kernel_rfl) (h_free rfl) (.agg XA) ?_ ?_; (focus (intro v hv; rw [← XE.out]; refine run_cells 47 (.tmp 19) ?_ b (o + k * 2) ?_ (Pc.cells ⟨xs, xz⟩) _ (fun j' u hj => by rw [hv.cell (p := ⟨b, o + k * 2 + j', none⟩) (World.block_lt_of_cell? wr _ (X1.out j' u hj))]; exact X1.out j' u hj) Tryz.underlying47 rfl pc_size; (focus rfl); go_simp)); go_simp)
      (refine h_read 4 rfl (by kernel_rfl) (by kernel_rfl) (h_free rfl) ?_ ?_ ?_; rotate_left; (focus (intro v hv; go_simp; rfl)); go_simp)
      (refine h_read 5 rfl (by kernel_rfl) (by kernel_rfl) (h_free rfl) ?_ ?_ ?_; rotate_left; (focus (intro v hv; go_simp; rfl)); go_simp)
      (refine h_read 6 rfl (by kernel_rfl) (by kernel_rfl) (h_free rfl) ?_ ?_ ?_; rotate_left; (focus (intro v hv; go_simp; rfl)); go_simp)
      (refine h_read 7 rfl (by kernel_rfl) (by kernel_rfl) (h_free rfl) (.agg YA) ?_ ?_; (focus (intro v hv; rw [← YE.out]; refine run_cells 47 (.tmp 23) ?_ b' (o' + k * 2) ?_ (Pc.cells ⟨ys, yz⟩) _ (fun j' u hj => by rw [hv.cell (p := ⟨b', o' + k * 2 + j', none⟩) (World.block_lt_of_cell? wr _ (X2.out j' u hj))]; exact X2.out j' u hj) Tryz.underlying47 rfl pc_size; (focus rfl); go_simp)); go_simp)
      (refine h_read 8 rfl (by kernel_rfl) (by kernel_rfl) (h_free rfl) (.bool (!d)) ?_ ?_; (focus (intro v hv; first | (go_simp; done) | (go_simp; rfl) | (go_simp; simp))); go_simp)
      refine h_done (by kernel_rfl) ?_
      have BD := Lib.hid (B.out.trans (D0.out.mono B.out.size))
      cases d
      · have HF := Lib.hid (HBD.out rfl)
        clear HNX HBD hq
        go_wp2_with fail
        go_ret
        exact ⟨one (vbool (by rw [HF.out])), BD.out⟩
      · have HN := Lib.hid (HNX.out rfl)
        clear HNX HBD hq
        go_wp2_with fail
        go_roundw
        case rel => exact ⟨k + 1, vint (by omega), by omega, HN, BD⟩
        case measure => simp [intOf]; omega
    · obtain rfl : n = k := by omega
      have e1 : L.take n = L := List.take_of_length_le (by rw [L1.out]; exact Nat.le_refl _)
      have e2 : M.take n = M := List.take_of_length_le (by rw [L2.out]; exact Nat.le_refl _)
      have HT := Lib.hid (show V = true from HV.out.2 (by have := T.out; rw [e1, e2] at this; exact this))
      clear e1 e2
      go_wp2_with fail
      go_ret
      exact ⟨one (vbool (by rw [HT.out])), B.out⟩
end Go.Proofs.YtjolmjbhpokgmaaGreat.W
