/- LAYER 12 (peers): the program's iterator of members, and List, which ranges over it. -/
import Derived.Test.YtjkkopbhdeljmaaGreatPeP
import Derived.Test.YtjkkopbhdeljmaaGreatRgf
import Derived.Shelf.Abstract
import Derived.Shelf.RegionOpen
import Derived.OwnWalkIn
import Derived.TacticsInMore
import Derived.LoopNIn
import Derived.LoopIn
set_option linter.unusedSimpArgs false
set_option linter.unusedVariables false
namespace Go.Proofs.YtjkkopbhdeljmaaGreat.W
open Go Go.ChangeShapes Go.WideShapes Go.ChangeAt Go.RowKit Go.Shelf
open Go.Proofs.YtjkkopbhdeljmaaGreat.B (hasV elV bitsV mem mem_and mem_ref cntM cnt T bits_127 cntM_le lsN lsN_len lsN_lt mlN)
attribute [local go_sem] Oper.semAt_some

set_option maxRecDepth 100000 in
set_option maxHeartbeats 4000000 in
theorem pmembers (c : Int) (w : World) :
    Calls Tryz.prog 116 #[.int .i64 c] w fun e w' => e = .returned (.func (.func 161) #[] #[.pointer (some ⟨w.heap.size, 0, none⟩)]) ∧ Row w' w.heap.size 3 [.int .i64 c] ∧ Below w.heap.size w w' ∧ w'.heap.size = w.heap.size + 1 := by
  go_enter Tryz.func116, Tryz.ntmps116
  go_wp2_with (with_reducible refine box_cell (o := ⟨some 1, _, _, _, _, _⟩) rfl _ _ rfl (.int .i64 c) rfl rfl ?_; intro w1 hr1 hb1 hz1; have R1 := Lib.hid hr1; have B1 := Lib.hid hb1; have Z1 := Lib.hid hz1; clear hr1 hb1 hz1)
  go_ret
  exact ⟨rfl, R1.out, B1.out, Z1.out⟩

/-- w' has the blocks of w from a number on -/
structure UpI (base : Nat) (w w' : World) : Prop where
  size : w.heap.size ≤ w'.heap.size
  block : ∀ k, base ≤ k → k < w.heap.size → w'.heap[k]? = w.heap[k]?
theorem OwI.up {w w' : World} {base : Nat} {v : Value} {L : List Int} (h : OwI w base v L) (k : UpI base w w') : OwI w' base v L := by
  have hlt := World.ownsRow.lt h
  obtain ⟨h1, h2⟩ := h
  refine ⟨h1, ?_⟩
  rcases h2 with h2 | ⟨g, cap, cur, rfl, hg, hh, r⟩
  · exact .inl h2
  · exact .inr ⟨g, cap, cur, rfl, hg, by rw [k.block g hg (hlt g rfl).2]; exact hh, r⟩
theorem UpI.setCell (base : Nat) (w : World) (g i : Nat) (v : Value) (h : g < base) : UpI base w (w.setCell ⟨g, i, none⟩ v) := ⟨by simp [World.setCell], fun k hk _ => heap_setCell_other w ⟨g, i, none⟩ k v (by simp; omega)⟩
theorem UpI.putObj (base : Nat) (w : World) (l : Nat) (o : Obj) (h : l < base) : UpI base w (w.putObj l o) := ⟨by simp, fun k hk _ => World.putObj_heap_other (by omega)⟩
theorem UpI.trans {base : Nat} {w w' w'' : World} (h : UpI base w w') (k : UpI base w' w'') : UpI base w w'' := ⟨Nat.le_trans h.size k.size, fun b hb hlt => (k.block b hb (Nat.lt_of_lt_of_le hlt h.size)).trans (h.block b hb hlt)⟩
theorem UpI.of_below {base : Nat} {w w' : World} (h : Below w.heap.size w w') : UpI base w w' := ⟨h.size, fun k _ hlt => h.block k hlt⟩

def encI (x : Nat) : Array Value := #[.int .i64 (x : Int)]
def NwI (s : List Int) (x : Nat) (_ _ : World) : Prop := x < 7 ∧ s.length ≤ 7
def nextI (s : List Int) (x : Nat) : List Int := s ++ [(x : Int)]
set_option maxRecDepth 100000 in
set_option maxHeartbeats 4000000 in
theorem piter (c : Int) (b1 n0 : Nat) (w : World) (hn0 : n0 ≤ b1) (hb1 : Row w b1 3 [.int .i64 c]) :
    IterC Tryz.prog 8 161 b1 n0 #[.pointer (some ⟨b1, 0, none⟩)] encI NwI nextI [] (fun s => s = mlI c) w := by
  intro l J W hbw hl hJ1 hJ2 hY h0
  have HROW := Lib.hid (show Row W b1 3 [.int .i64 c] from hb1.below hbw hb1.lt)
  obtain ⟨f, hf⟩ : ∃ f : Nat → Bool, (fun k : Nat => mem c (k : Int)) = f := ⟨_, rfl⟩
  have HF := Lib.hid (fun k : Nat => (congrFun hf k : mem c (k : Int) = f k))
  have hm : mlI c = LI f 7 := by unfold mlI; rw [hf]
  rw [hm]
  have HJ1 := Lib.hid hJ1
  have HY := Lib.hid hY
  have HJ0 := Lib.hid h0
  clear hb1 hm hf hJ1 hJ2 hY h0 hbw
  refine callsIn_of_wp Tryz.func161 rfl trivial ?_ rfl
  simp only [Tryz.ntmps161, List.size_toArray, List.length_cons, List.length_nil, Nat.reduceAdd, Nat.reduceSub, Array.replicate_succ, Array.replicate_zero, List.push_toArray, List.append_toArray, List.nil_append, List.cons_append]
  gi_wp2
  gi_loopw [4] (fun i wr => ∃ k : Nat, k ≤ 7 ∧ i = .int .i64 k ∧ Hid (J (LI f k) wr) ∧ Hid (Row wr b1 3 [.int .i64 c])) (fun i _ => 7 - (intOf i).toNat)
  case atStart => exact ⟨0, Nat.zero_le _, rfl, HJ0, HROW⟩
  case round =>
    obtain ⟨k, hk, rfl, HJ, HRW⟩ := hrel
    have c0 := HRW.out.k0
    by_cases hlt : k < 7
    · obtain ⟨b, hb⟩ : ∃ b, f k = b := ⟨_, rfl⟩
      have hs := LI_succ f k
      rw [hb] at hs
      have HS := Lib.hid hs
      have HK := Lib.hid ((HF.out k).trans hb)
      have HL := Lib.hid (show (LI f k).length ≤ 7 by rw [LI_len]; exact Nat.le_trans (B.cnt_le f k) (by omega))
      clear hs hb
      cases b
      · gi_wp2_with (refine ⟨trivial, ?_⟩; gi_at_call 29; refine (callsIn_wide.2 (phas c k _)).mono ?_; rw [HK.out]; rintro e w' ⟨rfl, rfl⟩)
        refine ⟨fun _ h => (by cases h), ?_⟩
        gi_wp2
        go_roundw
        case rel => exact ⟨k + 1, by omega, by go_num, by rw [HS.out]; simpa using HJ, HRW⟩
        case measure => simp [intOf]; omega
      · obtain ⟨fn, tmps, assign, body, hy, hR⟩ := HY.out (LI f k) k wr wr HJ.out (Below.refl _ _) ⟨hlt, HL.out⟩
        dsimp only [encI] at hy
        gi_wp2_with (refine ⟨trivial, ?_⟩; gi_at_call 29; refine (callsIn_wide.2 (phas c k _)).mono ?_; rw [HK.out]; rintro e w' ⟨rfl, rfl⟩)
        refine hR.mono ?_
        rintro e W3 ⟨rfl, hJ3, hk3⟩
        have R3 : Hid (Row W3 b1 3 [.int .i64 c]) := Lib.hid (hk3.cell.trans HRW.out)
        have J3 : Hid (J (LI f (k + 1)) W3) := Lib.hid (by rw [HS.out]; exact hJ3)
        clear hR hy hJ3 hk3 c0
        gi_wp2
        go_roundw
        case rel => exact ⟨k + 1, by omega, by go_num, J3, R3⟩
        case measure => simp [intOf]; omega
    · obtain rfl : k = 7 := by omega
      gi_wp2
      first | go_end0 | (refine bodyPost_ret (results_none rfl _ _ _) rfl ?_)
      exact ⟨⟨_, rfl⟩, LI f 7, rfl, HJ.out⟩
end Go.Proofs.YtjkkopbhdeljmaaGreat.W
