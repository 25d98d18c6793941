/- LAYER 13 (rlog): the program's iterator over the entries, from the last one on. LAYER 13 (rlog): the program's iterator over the entries, by its contract. -/
import Derived.Test.YtjkkopbhdeljmaaGreatRlO
import Derived.RangeFuncNested
import Derived.RangeFuncBound
import Derived.RangeFuncCalls
import Derived.RangeFuncLeaves
import Derived.Shelf.Abstract
import Derived.Shelf.RegionOpen
import Derived.OwnWalkIn
import Derived.TacticsInMore
import Derived.LoopNIn
import Derived.LoopIn
import Derived.BigRegionIn
import Derived.Test.YtjkkopbhdeljmaaGreatRgq
set_option linter.unusedSimpArgs false
set_option linter.unusedVariables false
namespace Go.Proofs.YtjkkopbhdeljmaaGreat.W
open Go Go.ChangeShapes Go.WideShapes Go.ChangeAt Go.RowKit Go.Shelf
attribute [local go_sem] Oper.semAt_some

/-- what comes is an entry's place -/
abbrev Ix13 (n : Nat) := { k : Nat // k < n }
def encE (L : List (En × List UInt8)) (n : Nat) (k : Ix13 n) : Array Value := #[.agg (L.getD k.1 Ez).1.cells.toArray]
def placesOf {n : Nat} (pre : List (Ix13 n)) : List Nat := pre.map (·.1)
def AllB (L : List (En × List UInt8)) (n : Nat) (i : Int) (m : Nat) (pre : List (Ix13 n)) : Prop := (∀ k, m ≤ k → k < n → (L.getD k Ez).1.ix ≤ i → k ∈ placesOf pre) ∧ ∀ k ∈ placesOf pre, m ≤ k
def StopB (L : List (En × List UInt8)) (n : Nat) (i : Int) (pre : List (Ix13 n)) : Prop := ∃ init x, pre = init ++ [x] ∧ (L.getD x.1 Ez).1.ix ≤ i ∧ AllB L n i (x.1 + 1) init
theorem placesOf_app {n : Nat} (pre : List (Ix13 n)) (x : Ix13 n) : placesOf (pre ++ [x]) = placesOf pre ++ [x.1] := by simp [placesOf]
theorem AllB.take {L : List (En × List UInt8)} {n : Nat} {i : Int} {k : Nat} {pre : List (Ix13 n)} (h : AllB L n i (k + 1) pre) (hk : k < n) : AllB L n i k (pre ++ [⟨k, hk⟩]) := by
  refine ⟨fun j hj hjn hx => ?_, fun j hj => ?_⟩
  · rw [placesOf_app]
    by_cases e : j = k
    · subst e; simp
    · exact List.mem_append_left _ (h.1 j (by omega) hjn hx)
  · rw [placesOf_app] at hj
    rcases List.mem_append.1 hj with hj | hj
    · have := h.2 j hj; omega
    · rw [List.mem_singleton.1 hj]; exact Nat.le_refl _
theorem AllB.skip {L : List (En × List UInt8)} {n : Nat} {i : Int} {k : Nat} {pre : List (Ix13 n)} (h : AllB L n i (k + 1) pre) (hx : ¬ (L.getD k Ez).1.ix ≤ i) : AllB L n i k pre := by
  refine ⟨fun j hj hjn hxj => ?_, fun j hj => by have := h.2 j hj; omega⟩
  by_cases e : j = k
  · subst e; exact absurd hxj hx
  · exact h.1 j (by omega) hjn hxj
set_option maxRecDepth 100000 in
set_option maxHeartbeats 4000000 in
theorem gback (p : Nat) (i : Int) (w : World) :
    Calls Tryz.prog 89 #[.pointer (some ⟨p, 0, none⟩), .int .i64 i] w fun x w' => x = .returned (.func (.func 121) #[] #[.pointer (some ⟨w.heap.size, 0, none⟩), .pointer (some ⟨w.heap.size + 1, 0, none⟩)]) ∧ Row w' w.heap.size 57 [.pointer (some ⟨p, 0, none⟩)] ∧ Row w' (w.heap.size + 1) 3 [.int .i64 i] ∧ Below w.heap.size w w' ∧ w'.heap.size = w.heap.size + 2 := by
  go_enter Tryz.func89, Tryz.ntmps89
  go_wp2_with (first
    | (with_reducible refine box_cell (o := ⟨some 2, _, _, _, _, _⟩) rfl _ _ rfl (.pointer (some ⟨p, 0, none⟩)) rfl rfl ?_; intro w1 hr1 hb1 hz1; have R1 := Lib.hid hr1; have B1 := Lib.hid hb1; have Z1 := Lib.hid hz1; clear hr1 hb1 hz1)
    | (with_reducible refine box_cell (o := ⟨some 3, _, _, _, _, _⟩) rfl _ _ rfl (.int .i64 i) rfl rfl ?_; intro w2 hr1 hb1 hz1; rw [Z1.out] at hr1 hz1 ⊢; have R2 := Lib.hid hr1; have R12 := Lib.hid (R1.out.below hb1 (by rw [Z1.out]; exact Nat.lt_succ_self _)); have B2 := Lib.hid (B1.out.trans (hb1.mono B1.out.size)); have Z2 := Lib.hid hz1; clear hr1 hb1 hz1))
  go_ret
  exact ⟨rfl, R12.out, R2.out, B2.out, Z2.out⟩
end Go.Proofs.YtjkkopbhdeljmaaGreat.W

namespace Go.Proofs.YtjkkopbhdeljmaaGreat.W
open Go Go.ChangeShapes Go.WideShapes Go.ChangeAt Go.RowKit Go.Shelf
attribute [local go_sem] Oper.semAt_some

set_option maxRecDepth 100000 in
set_option maxHeartbeats 4000000 in
theorem gback1 (p : Nat) (F : Nat → Prop) (b t c : Int) (ea : Option Addr) (en ec : Nat) (L : List (En × List UInt8)) (i : Int) (rp ri : Nat) (w : World) (h : LG w p F b t c ea en ec L) (hn : en ≤ 1000000) (hrp : Row w rp 57 [.pointer (some ⟨p, 0, none⟩)]) (hri : Row w ri 3 [.int .i64 i]) :
    SeqStopsK Fence.wide 8 Tryz.prog 121 #[.pointer (some ⟨rp, 0, none⟩), .pointer (some ⟨ri, 0, none⟩)] (encE L en) (Below w.heap.size) (fun xs => AllB L en i 0 xs) (StopB L en i) 1000001 w := by
  intro l J Jx W hbw hJ1 hJ2 hY h0
  have H := Lib.hid (h.mono hbw)
  have HP := Lib.hid (hrp.below hbw hrp.lt)
  have HI := Lib.hid (hri.below hbw hri.lt)
  have HL := Lib.hid h.len
  have HS := Lib.hid hbw.size
  have HJ1 := Lib.hid hJ1
  have HY := Lib.hid hY
  have HJ0 := Lib.hid h0
  have HRPL := Lib.hid hrp.lt
  have HRIL := Lib.hid hri.lt
  obtain ⟨N0, hN0⟩ : ∃ N0, w.heap.size = N0 := ⟨_, rfl⟩
  have HN0 := Lib.hid hN0
  have LG0 := Lib.hid (fun (W' : World) (hb : Below N0 W W') => (show LG W' p F b t c ea en ec L from by rw [← HN0.out] at hb; exact h.mono (hbw.trans hb)))
  have RP0 := Lib.hid (fun (W' : World) (hb : Below N0 W W') => (show Row W' rp 57 [.pointer (some ⟨p, 0, none⟩)] from by rw [← HN0.out] at hb; exact hrp.below (hbw.trans hb) hrp.lt))
  have RI0 := Lib.hid (fun (W' : World) (hb : Below N0 W W') => (show Row W' ri 3 [.int .i64 i] from by rw [← HN0.out] at hb; exact hri.below (hbw.trans hb) hri.lt))
  rw [hN0] at HY
  clear h hrp hri hbw hJ1 hJ2 hY h0 hN0
  have c0 := HP.out.k0
  obtain ⟨-, -, -, -, c4⟩ := H.out.row.c5
  have gw : IntKind.i64.wrap ((en : Int) - 1) = (en : Int) - 1 := by rw [IntKind.wrap_i64]; omega
  refine callsIn_of_wp Tryz.func121 rfl trivial ?_ rfl
  simp only [Tryz.ntmps121, List.size_toArray, List.length_cons, List.length_nil, Nat.reduceAdd, Nat.reduceSub, Array.replicate_succ, Array.replicate_zero, List.push_toArray, List.append_toArray, List.nil_append, List.cons_append]
  gi_wp2
  gi_loopw [4] (fun v wr => ∃ (m : Nat) (pre : List (Ix13 en)), v = .int .i64 ((m : Int) - 1) ∧ m ≤ en ∧ pre.length + m ≤ en ∧ Hid (AllB L en i m pre) ∧ Hid (J pre wr) ∧ Hid (Below N0 W wr)) (fun v _ => (intOf v + 1).toNat)
  case atStart => exact ⟨en, [], rfl, Nat.le_refl _, by simp, Lib.hid ⟨fun k h1 h2 => absurd h2 (by omega), fun k hk => by cases hk⟩, HJ0, Lib.hid (Below.refl _ _)⟩
  case round =>
    obtain ⟨m, pre, rfl, hm, hpl, HA, HJ, HB⟩ := hrel
    rcases m with _ | k
    · gi_wp2
      go_end0
      exact ⟨⟨_, rfl⟩, .inl ⟨pre, HA.out, HJ.out⟩⟩
    · have hk : k < en := hm
      have g0 : ((k + 1 : Nat) : Int) - 1 = (k : Int) := by omega
      have g1 : (0 : Int) ≤ (k : Int) := by omega
      have g2 : (k : Int) < (en : Int) := by omega
      have gw2 : IntKind.i64.wrap ((k : Int) - 1) = (k : Int) - 1 := by rw [IntKind.wrap_i64]; omega
      rw [g0]
      have LGr := Lib.hid (LG0.out wr HB.out)
      obtain ⟨-, -, -, -, c4⟩ := LGr.out.row.c5
      have c0 := (RP0.out wr HB.out).k0
      have ci := (RI0.out wr HB.out).k0
      obtain ⟨x1, o1, he1, hx1, -, -⟩ := LGr.out.ents.at (Below.refl _ _) k hk
      have HENC := Lib.hid (show encE L en ⟨k, hk⟩ = #[.agg (L.getD k Ez).1.cells.toArray] from rfl)
      have HSK := Lib.hid (fun (h : ¬ (L.getD k Ez).1.ix ≤ i) => HA.out.skip h)
      have HTK := Lib.hid (HA.out.take hk)
      have HST := Lib.hid (fun (h : (L.getD k Ez).1.ix ≤ i) => (show StopB L en i (pre ++ [⟨k, hk⟩]) from ⟨pre, ⟨k, hk⟩, rfl, h, HA.out⟩))
      obtain ⟨⟨⟨jx, jt, jk, qa, qn, qc⟩, ql⟩, hq⟩ : ∃ y, L.getD k Ez = y := ⟨_, rfl⟩
      rw [hq] at hx1 HENC HSK HST
      dsimp only at hx1 HENC HSK HST
      have x0 : wr.cell? ⟨x1, o1 + k * 4, none⟩ = some (.int .i64 jx) := hx1 0 _ rfl
      have x1' : wr.cell? ⟨x1, o1 + k * 4 + 1, none⟩ = some (.int .i64 jt) := hx1 1 _ rfl
      have x2' : wr.cell? ⟨x1, o1 + k * 4 + 2, none⟩ = some (.int .i64 jk) := hx1 2 _ rfl
      have x3' : wr.cell? ⟨x1, o1 + k * 4 + 3, none⟩ = some (.slice qa qn qc) := hx1 3 _ rfl
      have X1 := Lib.hid hx1
      subst he1
      by_cases hsel : jx ≤ i
      · have hsel1 : decide (jx ≤ i) = true := decide_eq_true hsel
        have hst := HST.out hsel
        have HST2 := Lib.hid hst
        have HLT := Lib.hid (show pre.length < 1000001 by omega)
        clear hst HSK HST hq hx1
        gi_wp2
        refine wpIn_region_tail 19 (by kernel_rfl) (by kernel_rfl) ?_
        simp only [List.take_succ_cons, List.take_zero, List.drop_succ_cons, List.drop_zero]
        repeat (quiet_step (fail))
        refine wpQuiet_nil ?_
        rintro _ ⟨nq, rfl⟩
        have JD := HJ1.out pre wr (wr.drewN nq) none HJ.out ⟨rfl, rfl, rfl, Nat.le_refl _, fun _ _ _ => rfl⟩ (fun r e => by cases e)
        have BD := Lib.hid (below_drewN HB.out nq)
        obtain ⟨wd, hwd⟩ : ∃ wd, wr.drewN nq = wd := ⟨_, rfl⟩
        rw [hwd] at JD BD ⊢
        obtain ⟨fn, tmps, assign, body, hy, hR⟩ := HY.out pre ⟨k, hk⟩ wd JD HLT.out
        rw [HENC.out] at hy
        dsimp only [En.cells] at hy
        clear hwd JD c0 c4 ci x0 x1' x2' x3' HENC
        gi_wp2
        refine hR.mono ?_
        rintro e W3 (⟨rfl, hJ3, hk3⟩ | ⟨rfl, hJ3⟩)
        · gi_wp2
          go_roundw
          case rel => exact ⟨k, pre ++ [⟨k, hk⟩], vint (by omega), by omega, (by rw [List.length_append]; show pre.length + 1 + k ≤ en; omega), HTK, Lib.hid hJ3, Lib.hid (BD.out.trans hk3)⟩
          case measure => (simp [intOf]; try omega)
        · gi_wp2
          refine bodyPost_ret (results_none rfl _ _ _) rfl ?_
          exact ⟨⟨_, rfl⟩, .inr ⟨_, HST2.out, hJ3⟩⟩
      · have hsel1 : decide (jx ≤ i) = false := decide_eq_false hsel
        have hsel2 : i < jx := by omega
        have HSK2 := Lib.hid (HSK.out hsel)
        clear HSK HST hq hx1
        gi_wp2
        have RPr := Lib.hid (RP0.out wr HB.out)
        have RIr := Lib.hid (RI0.out wr HB.out)
        have X0 := Lib.hid x0
        clear c0 c4 ci x0 x1' x2' x3' HENC
        refine region_h_wide (fun v => Below wr.heap.size wr v) (by kernel_rfl) (by kernel_rfl) (Below.refl _ _).drew ?_
        (refine h_read 0 rfl (by kernel_rfl) (by kernel_rfl) (h_free rfl) ?_ ?_ ?_; rotate_left; (focus (intro v hv; obtain ⟨-, -, -, -, d4⟩ := (LGr.out.mono hv).row.c5; have d0 := (RPr.out.below hv RPr.out.lt).k0; have di := (RIr.out.below hv RIr.out.lt).k0; have dx := (hv.cell (p := ⟨x1, o1 + k * 4, none⟩) (World.block_lt_of_cell? wr _ X0.out)).trans X0.out; go_simp; rfl)); go_simp)
        (refine h_read 1 rfl (by kernel_rfl) (by kernel_rfl) (h_free rfl) ?_ ?_ ?_; rotate_left; (focus (intro v hv; go_simp; rfl)); go_simp)
        (refine h_read 2 rfl (by kernel_rfl) (by kernel_rfl) (h_free rfl) ?_ ?_ ?_; rotate_left; (focus (intro v hv; go_simp; rfl)); go_simp)
        (refine h_read 3 rfl (by kernel_rfl) (by kernel_rfl) (h_free rfl) ?_ ?_ ?_; rotate_left; (focus (intro v hv; obtain ⟨-, -, -, -, d4⟩ := (LGr.out.mono hv).row.c5; have d0 := (RPr.out.below hv RPr.out.lt).k0; have di := (RIr.out.below hv RIr.out.lt).k0; have dx := (hv.cell (p := ⟨x1, o1 + k * 4, none⟩) (World.block_lt_of_cell? wr _ X0.out)).trans X0.out; go_simp; rfl)); go_simp)
        (refine h_read 4 rfl (by kernel_rfl) (by kernel_rfl) (h_free rfl) ?_ ?_ ?_; rotate_left; (focus (intro v hv; go_simp; rfl)); go_simp)
        (refine h_read 5 rfl (by kernel_rfl) (by kernel_rfl) (h_free rfl) ?_ ?_ ?_; rotate_left; (focus (intro v hv; go_simp; rfl)); go_simp)
        (refine h_read 6 rfl (by kernel_rfl) (by kernel_rfl) (h_free rfl) ?_ ?_ ?_; rotate_left; (focus (intro v hv; go_simp; rfl)); go_simp)
        (refine h_read 7 rfl (by kernel_rfl) (by kernel_rfl) (h_free rfl) ?_ ?_ ?_; rotate_left; (focus (intro v hv; obtain ⟨-, -, -, -, d4⟩ := (LGr.out.mono hv).row.c5; have d0 := (RPr.out.below hv RPr.out.lt).k0; have di := (RIr.out.below hv RIr.out.lt).k0; have dx := (hv.cell (p := ⟨x1, o1 + k * 4, none⟩) (World.block_lt_of_cell? wr _ X0.out)).trans X0.out; go_simp; rfl)); go_simp)
        (refine h_read 8 rfl (by kernel_rfl) (by kernel_rfl) (h_free rfl) ?_ ?_ ?_; rotate_left; (focus (intro v hv; obtain ⟨-, -, -, -, d4⟩ := (LGr.out.mono hv).row.c5; have d0 := (RPr.out.below hv RPr.out.lt).k0; have di := (RIr.out.below hv RIr.out.lt).k0; have dx := (hv.cell (p := ⟨x1, o1 + k * 4, none⟩) (World.block_lt_of_cell? wr _ X0.out)).trans X0.out; go_simp; rfl)); go_simp)
        (refine h_read 9 rfl (by kernel_rfl) (by kernel_rfl) (h_free rfl) ?_ ?_ ?_; rotate_left; (focus (intro v hv; go_simp; rfl)); go_simp)
        (refine h_read 10 rfl (by kernel_rfl) (by kernel_rfl) (h_free rfl) ?_ ?_ ?_; rotate_left; (focus (intro v hv; go_simp; rfl)); go_simp)
        (refine h_skip 11 rfl (by kernel_rfl) (by kernel_rfl) ?_ ?_; (focus (go_simp; first | done | (intro h; cases h) | simp)); go_simp)
        (refine h_skip 12 rfl (by kernel_rfl) (by kernel_rfl) ?_ ?_; (focus (go_simp; first | done | (intro h; cases h) | simp)); go_simp)
        (refine h_skip 13 rfl (by kernel_rfl) (by kernel_rfl) ?_ ?_; (focus (go_simp; first | done | (intro h; cases h) | simp)); go_simp)
        (refine h_skip 14 rfl (by kernel_rfl) (by kernel_rfl) ?_ ?_; (focus (go_simp; first | done | (intro h; cases h) | simp)); go_simp)
        (refine h_skip 15 rfl (by kernel_rfl) (by kernel_rfl) ?_ ?_; (focus (go_simp; first | done | (intro h; cases h) | simp)); go_simp)
        (refine h_skip 16 rfl (by kernel_rfl) (by kernel_rfl) ?_ ?_; (focus (go_simp; first | done | (intro h; cases h) | simp)); go_simp)
        (refine h_skip 17 rfl (by kernel_rfl) (by kernel_rfl) ?_ ?_; (focus (go_simp; first | done | (intro h; cases h) | simp)); go_simp)
        (refine h_skip 18 rfl (by kernel_rfl) (by kernel_rfl) ?_ ?_; (focus (go_simp; first | done | (intro h; cases h) | simp)); go_simp)
        (refine h_skip 19 rfl (by kernel_rfl) (by kernel_rfl) ?_ ?_; (focus (go_simp; first | done | (intro h; cases h) | simp)); go_simp)
        (refine h_skip 20 rfl (by kernel_rfl) (by kernel_rfl) ?_ ?_; (focus (go_simp; first | done | (intro h; cases h) | simp)); go_simp)
        (refine h_read 21 rfl (by kernel_rfl) (by kernel_rfl) (h_free rfl) ?_ ?_ ?_; rotate_left; (focus (intro v hv; go_simp; rfl)); go_simp)
        refine h_done (by kernel_rfl) ⟨rfl, ?_⟩
        have JD := Lib.hid (HJ1.out pre wr wr.drew none HJ.out ⟨rfl, rfl, rfl, Nat.le_refl _, fun _ _ _ => rfl⟩ (fun r e => by cases e))
        have BD := Lib.hid (HB.out.drew)
        obtain ⟨wd, hwd⟩ : ∃ wd, wr.drew = wd := ⟨_, rfl⟩
        rw [hwd] at JD BD ⊢
        clear hwd
        gi_wp2
        go_roundw
        case rel => exact ⟨k, pre, vint (by omega), by omega, by omega, HSK2, JD, BD⟩
        case measure => (simp [intOf]; try omega)
end Go.Proofs.YtjkkopbhdeljmaaGreat.W
