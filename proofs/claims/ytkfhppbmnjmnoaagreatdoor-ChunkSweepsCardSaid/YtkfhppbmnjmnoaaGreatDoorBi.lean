/- SLICES OF INTS that are built out of operands; lists.Within (of the program: numbers from 0 to a limit). -/
import Derived.Test.YtkfhppbmnjmnoaaGreatDoorLs
import Derived.Test.YtkfhppbmnjmnoaaGreatDoorLg
import Derived.Test.YtkfhppbmnjmnoaaGreatDoorNumsWc
import Derived.Test.YtkfhppbmnjmnoaaGreatDoorCavW
import Derived.Great.BuildSlice
set_option linter.unusedSimpArgs false
set_option linter.unusedVariables false
namespace Go.Proofs.YtkfhppbmnjmnoaaGreatDoor.W
open Go Go.ChangeShapes Go.WideShapes Go.ChangeAt Go.RowKit
open Go.Proofs.YtkfhppbmnjmnoaaGreatDoor.S

def SI64 (x : Int) : Prop := -9223372036854775808 ≤ x ∧ x ≤ 9223372036854775807
def in64 (n lo hi : Int) : Bool := decide (lo ≤ n) && decide (n ≤ hi)
theorem in64_iff {n lo hi : Int} : in64 n lo hi = true ↔ lo ≤ n ∧ n ≤ hi := by unfold in64; simp
theorem infoInt19 : (Tryz.prog.info? 3).map (fun i => (i.zero, i.size, i.bytes)) = some (some (.int .i64 0), 1, 8) := by kernel_rfl
theorem wf64 {i : Int} (h : -9223372036854775808 ≤ i ∧ i ≤ 9223372036854775807) : (Lit.int .i64 i).wf = true := by
  simp [Lit.wf, IntKind.min, IntKind.max, IntKind.bits, IntKind.signed]; omega
theorem sl_new1 (w : World) (v0 : Int) (r0 : SI64 v0) : Sl .i64 (w.alloc (.cells #[.int .i64 v0] 3)) (some ⟨w.heap.size, 0, none⟩) 1 [v0] := by
  have hr := Row.new w 3 [.int .i64 v0]
  refine ⟨rfl, by decide, ?_, .inr ⟨_, 0, rfl, by simp, ?_⟩⟩
  · intro q hq
    simp at hq
    rcases hq with rfl
    · exact wf64 r0
  · intro k hk
    rw [Nat.zero_add]
    have hc := hr.cellV k
    rcases k with _ | k
    · exact hc
    · omega
theorem fill_i1 (w : World) (o : Oper) (a : Act) (x0 : Operand) (v0 : Int) (i0 : TypeInfo) (hz1 : i0.size = 1) (h0 : a.eval x0 = .int .i64 v0) : Instr.fill (fun i => some (i * i0.size, i0.size)) ((Array.range (1 * i0.size)).map ((Value.int .i64 0).cells[· % (Value.int .i64 0).cells.size]!)) ((#[(0, x0)] : Array (Nat × Operand)).map fun (i, x) => (i, a.eval x)).toList = some #[.int .i64 v0] := by
  rw [hz1]; simp only [List.map_toArray, List.map_cons, List.map_nil, h0]; go_simp; first | done | rfl
set_option maxRecDepth 100000 in
theorem bi1 {w : World} {ops : Array Oper} {rest : List Oper} {o : Oper} {a : Act} {Q : Exit → Act → World → Prop} (hgd : o.guard = none) (x0 : Operand)
    (ho : o.op = .buildSlice 31 1 #[(0, x0)]) (v0 : Int) (h0 : a.eval x0 = .int .i64 v0) (r0 : SI64 v0)
    (hk : ∀ w', Sl .i64 w' (some ⟨w.heap.size, 0, none⟩) 1 [v0] → Below w.heap.size w w' → w'.heap.size = w.heap.size + 1 → wpList Tryz.prog ops Q rest (a.put o.dst (.slice (some ⟨w.heap.size, 0, none⟩) 1 1)) w') : wpList Tryz.prog ops Q (o :: rest) a w := by
  obtain ⟨i0, hi0, hz0, hz1, hz2⟩ := info_parts infoInt19
  refine wpList_buildSlice hgd 31 3 1 _ ho #[.int .i64 v0] i0 _ Tryz.underlying31 hi0 hz0 (by rw [hz1]; decide) (by rw [hz1]; decide) (fill_i1 w o a x0 v0 i0 hz1 h0) ?_
  exact hk _ (sl_new1 w v0 r0) ((Below.refl _ _).alloc (Nat.le_refl _) _) (by simp)
set_option maxRecDepth 100000 in
theorem bg1 {w : World} {ops : Array Oper} {rest : List Oper} {o : Oper} {a : Act} {Q : Exit → Act → World → Prop} (gk : Nat) (want : Bool) (gt : Tmp) (hgd : o.guard = some (gk, want)) (x0 : Operand)
    (ho : o.op = .buildSlice 31 1 #[(0, x0)]) (hdst : (ops[gk]?).bind (·.dst) = some gt) (hv : a.eval (.tmp gt) = .bool want) (v0 : Int) (h0 : a.eval x0 = .int .i64 v0) (r0 : SI64 v0)
    (hk : ∀ w', Sl .i64 w' (some ⟨w.heap.size, 0, none⟩) 1 [v0] → Below w.heap.size w w' → w'.heap.size = w.heap.size + 1 → wpList Tryz.prog ops Q rest (a.put o.dst (.slice (some ⟨w.heap.size, 0, none⟩) 1 1)) w') : wpList Tryz.prog ops Q (o :: rest) a w := by
  obtain ⟨i0, hi0, hz0, hz1, hz2⟩ := info_parts infoInt19
  have hw := lg_wanted gk want gt hgd hdst hv
  refine wpList_step fun K hK => ?_
  simp only [hw, if_true]
  refine wp_buildSlice 31 3 1 _ ho #[.int .i64 v0] i0 _ Tryz.underlying31 hi0 hz0 (by rw [hz1]; decide) (by rw [hz1]; decide) (fill_i1 w o a x0 v0 i0 hz1 h0) ?_
  exact hK _ _ (hk _ (sl_new1 w v0 r0) ((Below.refl _ _).alloc (Nat.le_refl _) _) (by simp))
theorem sl_new2 (w : World) (v0 v1 : Int) (r0 : SI64 v0) (r1 : SI64 v1) : Sl .i64 (w.alloc (.cells #[.int .i64 v0, .int .i64 v1] 3)) (some ⟨w.heap.size, 0, none⟩) 2 [v0, v1] := by
  have hr := Row.new w 3 [.int .i64 v0, .int .i64 v1]
  refine ⟨rfl, by decide, ?_, .inr ⟨_, 0, rfl, by simp, ?_⟩⟩
  · intro q hq
    simp at hq
    rcases hq with rfl | rfl
    · exact wf64 r0
    · exact wf64 r1
  · intro k hk
    rw [Nat.zero_add]
    have hc := hr.cellV k
    rcases k with _ | _ | k
    · exact hc
    · exact hc
    · omega
theorem fill_i2 (w : World) (o : Oper) (a : Act) (x0 x1 : Operand) (v0 v1 : Int) (i0 : TypeInfo) (hz1 : i0.size = 1) (h0 : a.eval x0 = .int .i64 v0) (h1 : a.eval x1 = .int .i64 v1) : Instr.fill (fun i => some (i * i0.size, i0.size)) ((Array.range (2 * i0.size)).map ((Value.int .i64 0).cells[· % (Value.int .i64 0).cells.size]!)) ((#[(0, x0), (1, x1)] : Array (Nat × Operand)).map fun (i, x) => (i, a.eval x)).toList = some #[.int .i64 v0, .int .i64 v1] := by
  rw [hz1]; simp only [List.map_toArray, List.map_cons, List.map_nil, h0, h1]; go_simp; first | done | rfl
set_option maxRecDepth 100000 in
theorem bi2 {w : World} {ops : Array Oper} {rest : List Oper} {o : Oper} {a : Act} {Q : Exit → Act → World → Prop} (hgd : o.guard = none) (x0 x1 : Operand)
    (ho : o.op = .buildSlice 31 2 #[(0, x0), (1, x1)]) (v0 v1 : Int) (h0 : a.eval x0 = .int .i64 v0) (h1 : a.eval x1 = .int .i64 v1) (r0 : SI64 v0) (r1 : SI64 v1)
    (hk : ∀ w', Sl .i64 w' (some ⟨w.heap.size, 0, none⟩) 2 [v0, v1] → Below w.heap.size w w' → w'.heap.size = w.heap.size + 1 → wpList Tryz.prog ops Q rest (a.put o.dst (.slice (some ⟨w.heap.size, 0, none⟩) 2 2)) w') : wpList Tryz.prog ops Q (o :: rest) a w := by
  obtain ⟨i0, hi0, hz0, hz1, hz2⟩ := info_parts infoInt19
  refine wpList_buildSlice hgd 31 3 2 _ ho #[.int .i64 v0, .int .i64 v1] i0 _ Tryz.underlying31 hi0 hz0 (by rw [hz1]; decide) (by rw [hz1]; decide) (fill_i2 w o a x0 x1 v0 v1 i0 hz1 h0 h1) ?_
  exact hk _ (sl_new2 w v0 v1 r0 r1) ((Below.refl _ _).alloc (Nat.le_refl _) _) (by simp)
set_option maxRecDepth 100000 in
theorem bg2 {w : World} {ops : Array Oper} {rest : List Oper} {o : Oper} {a : Act} {Q : Exit → Act → World → Prop} (gk : Nat) (want : Bool) (gt : Tmp) (hgd : o.guard = some (gk, want)) (x0 x1 : Operand)
    (ho : o.op = .buildSlice 31 2 #[(0, x0), (1, x1)]) (hdst : (ops[gk]?).bind (·.dst) = some gt) (hv : a.eval (.tmp gt) = .bool want) (v0 v1 : Int) (h0 : a.eval x0 = .int .i64 v0) (h1 : a.eval x1 = .int .i64 v1) (r0 : SI64 v0) (r1 : SI64 v1)
    (hk : ∀ w', Sl .i64 w' (some ⟨w.heap.size, 0, none⟩) 2 [v0, v1] → Below w.heap.size w w' → w'.heap.size = w.heap.size + 1 → wpList Tryz.prog ops Q rest (a.put o.dst (.slice (some ⟨w.heap.size, 0, none⟩) 2 2)) w') : wpList Tryz.prog ops Q (o :: rest) a w := by
  obtain ⟨i0, hi0, hz0, hz1, hz2⟩ := info_parts infoInt19
  have hw := lg_wanted gk want gt hgd hdst hv
  refine wpList_step fun K hK => ?_
  simp only [hw, if_true]
  refine wp_buildSlice 31 3 2 _ ho #[.int .i64 v0, .int .i64 v1] i0 _ Tryz.underlying31 hi0 hz0 (by rw [hz1]; decide) (by rw [hz1]; decide) (fill_i2 w o a x0 x1 v0 v1 i0 hz1 h0 h1) ?_
  exact hK _ _ (hk _ (sl_new2 w v0 v1 r0 r1) ((Below.refl _ _).alloc (Nat.le_refl _) _) (by simp))
theorem sl_new3 (w : World) (v0 v1 v2 : Int) (r0 : SI64 v0) (r1 : SI64 v1) (r2 : SI64 v2) : Sl .i64 (w.alloc (.cells #[.int .i64 v0, .int .i64 v1, .int .i64 v2] 3)) (some ⟨w.heap.size, 0, none⟩) 3 [v0, v1, v2] := by
  have hr := Row.new w 3 [.int .i64 v0, .int .i64 v1, .int .i64 v2]
  refine ⟨rfl, by decide, ?_, .inr ⟨_, 0, rfl, by simp, ?_⟩⟩
  · intro q hq
    simp at hq
    rcases hq with rfl | rfl | rfl
    · exact wf64 r0
    · exact wf64 r1
    · exact wf64 r2
  · intro k hk
    rw [Nat.zero_add]
    have hc := hr.cellV k
    rcases k with _ | _ | _ | k
    · exact hc
    · exact hc
    · exact hc
    · omega
theorem fill_i3 (w : World) (o : Oper) (a : Act) (x0 x1 x2 : Operand) (v0 v1 v2 : Int) (i0 : TypeInfo) (hz1 : i0.size = 1) (h0 : a.eval x0 = .int .i64 v0) (h1 : a.eval x1 = .int .i64 v1) (h2 : a.eval x2 = .int .i64 v2) : Instr.fill (fun i => some (i * i0.size, i0.size)) ((Array.range (3 * i0.size)).map ((Value.int .i64 0).cells[· % (Value.int .i64 0).cells.size]!)) ((#[(0, x0), (1, x1), (2, x2)] : Array (Nat × Operand)).map fun (i, x) => (i, a.eval x)).toList = some #[.int .i64 v0, .int .i64 v1, .int .i64 v2] := by
  rw [hz1]; simp only [List.map_toArray, List.map_cons, List.map_nil, h0, h1, h2]; go_simp; first | done | rfl
set_option maxRecDepth 100000 in
theorem bi3 {w : World} {ops : Array Oper} {rest : List Oper} {o : Oper} {a : Act} {Q : Exit → Act → World → Prop} (hgd : o.guard = none) (x0 x1 x2 : Operand)
    (ho : o.op = .buildSlice 31 3 #[(0, x0), (1, x1), (2, x2)]) (v0 v1 v2 : Int) (h0 : a.eval x0 = .int .i64 v0) (h1 : a.eval x1 = .int .i64 v1) (h2 : a.eval x2 = .int .i64 v2) (r0 : SI64 v0) (r1 : SI64 v1) (r2 : SI64 v2)
    (hk : ∀ w', Sl .i64 w' (some ⟨w.heap.size, 0, none⟩) 3 [v0, v1, v2] → Below w.heap.size w w' → w'.heap.size = w.heap.size + 1 → wpList Tryz.prog ops Q rest (a.put o.dst (.slice (some ⟨w.heap.size, 0, none⟩) 3 3)) w') : wpList Tryz.prog ops Q (o :: rest) a w := by
  obtain ⟨i0, hi0, hz0, hz1, hz2⟩ := info_parts infoInt19
  refine wpList_buildSlice hgd 31 3 3 _ ho #[.int .i64 v0, .int .i64 v1, .int .i64 v2] i0 _ Tryz.underlying31 hi0 hz0 (by rw [hz1]; decide) (by rw [hz1]; decide) (fill_i3 w o a x0 x1 x2 v0 v1 v2 i0 hz1 h0 h1 h2) ?_
  exact hk _ (sl_new3 w v0 v1 v2 r0 r1 r2) ((Below.refl _ _).alloc (Nat.le_refl _) _) (by simp)
set_option maxRecDepth 100000 in
theorem bg3 {w : World} {ops : Array Oper} {rest : List Oper} {o : Oper} {a : Act} {Q : Exit → Act → World → Prop} (gk : Nat) (want : Bool) (gt : Tmp) (hgd : o.guard = some (gk, want)) (x0 x1 x2 : Operand)
    (ho : o.op = .buildSlice 31 3 #[(0, x0), (1, x1), (2, x2)]) (hdst : (ops[gk]?).bind (·.dst) = some gt) (hv : a.eval (.tmp gt) = .bool want) (v0 v1 v2 : Int) (h0 : a.eval x0 = .int .i64 v0) (h1 : a.eval x1 = .int .i64 v1) (h2 : a.eval x2 = .int .i64 v2) (r0 : SI64 v0) (r1 : SI64 v1) (r2 : SI64 v2)
    (hk : ∀ w', Sl .i64 w' (some ⟨w.heap.size, 0, none⟩) 3 [v0, v1, v2] → Below w.heap.size w w' → w'.heap.size = w.heap.size + 1 → wpList Tryz.prog ops Q rest (a.put o.dst (.slice (some ⟨w.heap.size, 0, none⟩) 3 3)) w') : wpList Tryz.prog ops Q (o :: rest) a w := by
  obtain ⟨i0, hi0, hz0, hz1, hz2⟩ := info_parts infoInt19
  have hw := lg_wanted gk want gt hgd hdst hv
  refine wpList_step fun K hK => ?_
  simp only [hw, if_true]
  refine wp_buildSlice 31 3 3 _ ho #[.int .i64 v0, .int .i64 v1, .int .i64 v2] i0 _ Tryz.underlying31 hi0 hz0 (by rw [hz1]; decide) (by rw [hz1]; decide) (fill_i3 w o a x0 x1 x2 v0 v1 v2 i0 hz1 h0 h1 h2) ?_
  exact hK _ _ (hk _ (sl_new3 w v0 v1 v2 r0 r1 r2) ((Below.refl _ _).alloc (Nat.le_refl _) _) (by simp))
theorem sl_new4 (w : World) (v0 v1 v2 v3 : Int) (r0 : SI64 v0) (r1 : SI64 v1) (r2 : SI64 v2) (r3 : SI64 v3) : Sl .i64 (w.alloc (.cells #[.int .i64 v0, .int .i64 v1, .int .i64 v2, .int .i64 v3] 3)) (some ⟨w.heap.size, 0, none⟩) 4 [v0, v1, v2, v3] := by
  have hr := Row.new w 3 [.int .i64 v0, .int .i64 v1, .int .i64 v2, .int .i64 v3]
  refine ⟨rfl, by decide, ?_, .inr ⟨_, 0, rfl, by simp, ?_⟩⟩
  · intro q hq
    simp at hq
    rcases hq with rfl | rfl | rfl | rfl
    · exact wf64 r0
    · exact wf64 r1
    · exact wf64 r2
    · exact wf64 r3
  · intro k hk
    rw [Nat.zero_add]
    have hc := hr.cellV k
    rcases k with _ | _ | _ | _ | k
    · exact hc
    · exact hc
    · exact hc
    · exact hc
    · omega
theorem fill_i4 (w : World) (o : Oper) (a : Act) (x0 x1 x2 x3 : Operand) (v0 v1 v2 v3 : Int) (i0 : TypeInfo) (hz1 : i0.size = 1) (h0 : a.eval x0 = .int .i64 v0) (h1 : a.eval x1 = .int .i64 v1) (h2 : a.eval x2 = .int .i64 v2) (h3 : a.eval x3 = .int .i64 v3) : Instr.fill (fun i => some (i * i0.size, i0.size)) ((Array.range (4 * i0.size)).map ((Value.int .i64 0).cells[· % (Value.int .i64 0).cells.size]!)) ((#[(0, x0), (1, x1), (2, x2), (3, x3)] : Array (Nat × Operand)).map fun (i, x) => (i, a.eval x)).toList = some #[.int .i64 v0, .int .i64 v1, .int .i64 v2, .int .i64 v3] := by
  rw [hz1]; simp only [List.map_toArray, List.map_cons, List.map_nil, h0, h1, h2, h3]; go_simp; first | done | rfl
set_option maxRecDepth 100000 in
theorem bi4 {w : World} {ops : Array Oper} {rest : List Oper} {o : Oper} {a : Act} {Q : Exit → Act → World → Prop} (hgd : o.guard = none) (x0 x1 x2 x3 : Operand)
    (ho : o.op = .buildSlice 31 4 #[(0, x0), (1, x1), (2, x2), (3, x3)]) (v0 v1 v2 v3 : Int) (h0 : a.eval x0 = .int .i64 v0) (h1 : a.eval x1 = .int .i64 v1) (h2 : a.eval x2 = .int .i64 v2) (h3 : a.eval x3 = .int .i64 v3) (r0 : SI64 v0) (r1 : SI64 v1) (r2 : SI64 v2) (r3 : SI64 v3)
    (hk : ∀ w', Sl .i64 w' (some ⟨w.heap.size, 0, none⟩) 4 [v0, v1, v2, v3] → Below w.heap.size w w' → w'.heap.size = w.heap.size + 1 → wpList Tryz.prog ops Q rest (a.put o.dst (.slice (some ⟨w.heap.size, 0, none⟩) 4 4)) w') : wpList Tryz.prog ops Q (o :: rest) a w := by
  obtain ⟨i0, hi0, hz0, hz1, hz2⟩ := info_parts infoInt19
  refine wpList_buildSlice hgd 31 3 4 _ ho #[.int .i64 v0, .int .i64 v1, .int .i64 v2, .int .i64 v3] i0 _ Tryz.underlying31 hi0 hz0 (by rw [hz1]; decide) (by rw [hz1]; decide) (fill_i4 w o a x0 x1 x2 x3 v0 v1 v2 v3 i0 hz1 h0 h1 h2 h3) ?_
  exact hk _ (sl_new4 w v0 v1 v2 v3 r0 r1 r2 r3) ((Below.refl _ _).alloc (Nat.le_refl _) _) (by simp)
set_option maxRecDepth 100000 in
theorem bg4 {w : World} {ops : Array Oper} {rest : List Oper} {o : Oper} {a : Act} {Q : Exit → Act → World → Prop} (gk : Nat) (want : Bool) (gt : Tmp) (hgd : o.guard = some (gk, want)) (x0 x1 x2 x3 : Operand)
    (ho : o.op = .buildSlice 31 4 #[(0, x0), (1, x1), (2, x2), (3, x3)]) (hdst : (ops[gk]?).bind (·.dst) = some gt) (hv : a.eval (.tmp gt) = .bool want) (v0 v1 v2 v3 : Int) (h0 : a.eval x0 = .int .i64 v0) (h1 : a.eval x1 = .int .i64 v1) (h2 : a.eval x2 = .int .i64 v2) (h3 : a.eval x3 = .int .i64 v3) (r0 : SI64 v0) (r1 : SI64 v1) (r2 : SI64 v2) (r3 : SI64 v3)
    (hk : ∀ w', Sl .i64 w' (some ⟨w.heap.size, 0, none⟩) 4 [v0, v1, v2, v3] → Below w.heap.size w w' → w'.heap.size = w.heap.size + 1 → wpList Tryz.prog ops Q rest (a.put o.dst (.slice (some ⟨w.heap.size, 0, none⟩) 4 4)) w') : wpList Tryz.prog ops Q (o :: rest) a w := by
  obtain ⟨i0, hi0, hz0, hz1, hz2⟩ := info_parts infoInt19
  have hw := lg_wanted gk want gt hgd hdst hv
  refine wpList_step fun K hK => ?_
  simp only [hw, if_true]
  refine wp_buildSlice 31 3 4 _ ho #[.int .i64 v0, .int .i64 v1, .int .i64 v2, .int .i64 v3] i0 _ Tryz.underlying31 hi0 hz0 (by rw [hz1]; decide) (by rw [hz1]; decide) (fill_i4 w o a x0 x1 x2 x3 v0 v1 v2 v3 i0 hz1 h0 h1 h2 h3) ?_
  exact hK _ _ (hk _ (sl_new4 w v0 v1 v2 v3 r0 r1 r2 r3) ((Below.refl _ _).alloc (Nat.le_refl _) _) (by simp))
theorem sl_new5 (w : World) (v0 v1 v2 v3 v4 : Int) (r0 : SI64 v0) (r1 : SI64 v1) (r2 : SI64 v2) (r3 : SI64 v3) (r4 : SI64 v4) : Sl .i64 (w.alloc (.cells #[.int .i64 v0, .int .i64 v1, .int .i64 v2, .int .i64 v3, .int .i64 v4] 3)) (some ⟨w.heap.size, 0, none⟩) 5 [v0, v1, v2, v3, v4] := by
  have hr := Row.new w 3 [.int .i64 v0, .int .i64 v1, .int .i64 v2, .int .i64 v3, .int .i64 v4]
  refine ⟨rfl, by decide, ?_, .inr ⟨_, 0, rfl, by simp, ?_⟩⟩
  · intro q hq
    simp at hq
    rcases hq with rfl | rfl | rfl | rfl | rfl
    · exact wf64 r0
    · exact wf64 r1
    · exact wf64 r2
    · exact wf64 r3
    · exact wf64 r4
  · intro k hk
    rw [Nat.zero_add]
    have hc := hr.cellV k
    rcases k with _ | _ | _ | _ | _ | k
    · exact hc
    · exact hc
    · exact hc
    · exact hc
    · exact hc
    · omega
theorem fill_i5 (w : World) (o : Oper) (a : Act) (x0 x1 x2 x3 x4 : Operand) (v0 v1 v2 v3 v4 : Int) (i0 : TypeInfo) (hz1 : i0.size = 1) (h0 : a.eval x0 = .int .i64 v0) (h1 : a.eval x1 = .int .i64 v1) (h2 : a.eval x2 = .int .i64 v2) (h3 : a.eval x3 = .int .i64 v3) (h4 : a.eval x4 = .int .i64 v4) : Instr.fill (fun i => some (i * i0.size, i0.size)) ((Array.range (5 * i0.size)).map ((Value.int .i64 0).cells[· % (Value.int .i64 0).cells.size]!)) ((#[(0, x0), (1, x1), (2, x2), (3, x3), (4, x4)] : Array (Nat × Operand)).map fun (i, x) => (i, a.eval x)).toList = some #[.int .i64 v0, .int .i64 v1, .int .i64 v2, .int .i64 v3, .int .i64 v4] := by
  rw [hz1]; simp only [List.map_toArray, List.map_cons, List.map_nil, h0, h1, h2, h3, h4]; go_simp; first | done | rfl
set_option maxRecDepth 100000 in
theorem bi5 {w : World} {ops : Array Oper} {rest : List Oper} {o : Oper} {a : Act} {Q : Exit → Act → World → Prop} (hgd : o.guard = none) (x0 x1 x2 x3 x4 : Operand)
    (ho : o.op = .buildSlice 31 5 #[(0, x0), (1, x1), (2, x2), (3, x3), (4, x4)]) (v0 v1 v2 v3 v4 : Int) (h0 : a.eval x0 = .int .i64 v0) (h1 : a.eval x1 = .int .i64 v1) (h2 : a.eval x2 = .int .i64 v2) (h3 : a.eval x3 = .int .i64 v3) (h4 : a.eval x4 = .int .i64 v4) (r0 : SI64 v0) (r1 : SI64 v1) (r2 : SI64 v2) (r3 : SI64 v3) (r4 : SI64 v4)
    (hk : ∀ w', Sl .i64 w' (some ⟨w.heap.size, 0, none⟩) 5 [v0, v1, v2, v3, v4] → Below w.heap.size w w' → w'.heap.size = w.heap.size + 1 → wpList Tryz.prog ops Q rest (a.put o.dst (.slice (some ⟨w.heap.size, 0, none⟩) 5 5)) w') : wpList Tryz.prog ops Q (o :: rest) a w := by
  obtain ⟨i0, hi0, hz0, hz1, hz2⟩ := info_parts infoInt19
  refine wpList_buildSlice hgd 31 3 5 _ ho #[.int .i64 v0, .int .i64 v1, .int .i64 v2, .int .i64 v3, .int .i64 v4] i0 _ Tryz.underlying31 hi0 hz0 (by rw [hz1]; decide) (by rw [hz1]; decide) (fill_i5 w o a x0 x1 x2 x3 x4 v0 v1 v2 v3 v4 i0 hz1 h0 h1 h2 h3 h4) ?_
  exact hk _ (sl_new5 w v0 v1 v2 v3 v4 r0 r1 r2 r3 r4) ((Below.refl _ _).alloc (Nat.le_refl _) _) (by simp)
set_option maxRecDepth 100000 in
theorem bg5 {w : World} {ops : Array Oper} {rest : List Oper} {o : Oper} {a : Act} {Q : Exit → Act → World → Prop} (gk : Nat) (want : Bool) (gt : Tmp) (hgd : o.guard = some (gk, want)) (x0 x1 x2 x3 x4 : Operand)
    (ho : o.op = .buildSlice 31 5 #[(0, x0), (1, x1), (2, x2), (3, x3), (4, x4)]) (hdst : (ops[gk]?).bind (·.dst) = some gt) (hv : a.eval (.tmp gt) = .bool want) (v0 v1 v2 v3 v4 : Int) (h0 : a.eval x0 = .int .i64 v0) (h1 : a.eval x1 = .int .i64 v1) (h2 : a.eval x2 = .int .i64 v2) (h3 : a.eval x3 = .int .i64 v3) (h4 : a.eval x4 = .int .i64 v4) (r0 : SI64 v0) (r1 : SI64 v1) (r2 : SI64 v2) (r3 : SI64 v3) (r4 : SI64 v4)
    (hk : ∀ w', Sl .i64 w' (some ⟨w.heap.size, 0, none⟩) 5 [v0, v1, v2, v3, v4] → Below w.heap.size w w' → w'.heap.size = w.heap.size + 1 → wpList Tryz.prog ops Q rest (a.put o.dst (.slice (some ⟨w.heap.size, 0, none⟩) 5 5)) w') : wpList Tryz.prog ops Q (o :: rest) a w := by
  obtain ⟨i0, hi0, hz0, hz1, hz2⟩ := info_parts infoInt19
  have hw := lg_wanted gk want gt hgd hdst hv
  refine wpList_step fun K hK => ?_
  simp only [hw, if_true]
  refine wp_buildSlice 31 3 5 _ ho #[.int .i64 v0, .int .i64 v1, .int .i64 v2, .int .i64 v3, .int .i64 v4] i0 _ Tryz.underlying31 hi0 hz0 (by rw [hz1]; decide) (by rw [hz1]; decide) (fill_i5 w o a x0 x1 x2 x3 x4 v0 v1 v2 v3 v4 i0 hz1 h0 h1 h2 h3 h4) ?_
  exact hK _ _ (hk _ (sl_new5 w v0 v1 v2 v3 v4 r0 r1 r2 r3 r4) ((Below.refl _ _).alloc (Nat.le_refl _) _) (by simp))
-- ---- Within, fit
def allIn (m : Int) (l : List Int) : Bool := l.all (fun x => in64 x 0 m)
theorem pin (n lo hi : Int) (v : Bool) (hv : in64 n lo hi = v) (w : World) : Calls Tryz.prog 35 #[.int .i64 n, .int .i64 lo, .int .i64 hi] w fun e w' => e = .returned (.bool v) ∧ w = w' := by
  subst hv; exact within n lo hi w
end Go.Proofs.YtkfhppbmnjmnoaaGreatDoor.W
