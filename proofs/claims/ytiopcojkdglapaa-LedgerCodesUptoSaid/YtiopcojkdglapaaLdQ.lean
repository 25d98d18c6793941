/- LAYER 19 (ledger): Check of the program, and what it is made of; slices of ints that are built. LAYER 19 (ledger): cmp.Compare, lists.Rise, holdsFit, Check of the program. LAYER 19 (ledger): holdsFit, Check of the program. -/
import Derived.Test.YtiopcojkdglapaaLdC
import Derived.Test.YtiopcojkdglapaaLdZ
import Derived.Test.YtiopcojkdglapaaLdE
import Derived.Test.YtiopcojkdglapaaLg
import Derived.Test.YtiopcojkdglapaaLdA
set_option linter.unusedSimpArgs false
set_option linter.unusedVariables false
namespace Go.Proofs.Ytiopcojkdglapaa.W
open Go Go.ChangeShapes Go.WideShapes Go.ChangeAt Go.RowKit
open Go.Proofs.Ytiopcojkdglapaa.P (enc dec)
open Go.Proofs.Ytiopcojkdglapaa.S

theorem sl_new1 (w : World) (v0 : Int) (r0 : SI64 v0) : Sl .i64 (w.alloc (.cells #[.int .i64 v0] 3)) (some ⟨w.heap.size, 0, none⟩) 1 [v0] := by
  have hr := Row.new w 3 [.int .i64 v0]
  refine ⟨rfl, by decide, ?_, .inr ⟨_, 0, rfl, by simp, ?_⟩⟩
  · intro q hq
    simp at hq
    rcases hq with rfl
    · exact wf64 r0
  · intro k hk
    rw [Nat.zero_add]
    have hc := hr.cellV k
    rcases k with _ | k
    · exact hc
    · omega
theorem fill_i1 (w : World) (o : Oper) (a : Act) (x0 : Operand) (v0 : Int) (i0 : TypeInfo) (hz1 : i0.size = 1) (h0 : a.eval x0 = .int .i64 v0) : Instr.fill (fun i => some (i * i0.size, i0.size)) ((Array.range (1 * i0.size)).map ((Value.int .i64 0).cells[· % (Value.int .i64 0).cells.size]!)) ((#[(0, x0)] : Array (Nat × Operand)).map fun (i, x) => (i, a.eval x)).toList = some #[.int .i64 v0] := by
  rw [hz1]; simp only [List.map_toArray, List.map_cons, List.map_nil, h0]; go_simp; first | done | rfl
set_option maxRecDepth 100000 in
theorem bi1 {w : World} {ops : Array Oper} {rest : List Oper} {o : Oper} {a : Act} {Q : Exit → Act → World → Prop} (hgd : o.guard = none) (x0 : Operand)
    (ho : o.op = .buildSlice 76 1 #[(0, x0)]) (v0 : Int) (h0 : a.eval x0 = .int .i64 v0) (r0 : SI64 v0)
    (hk : ∀ w', Sl .i64 w' (some ⟨w.heap.size, 0, none⟩) 1 [v0] → Below w.heap.size w w' → w'.heap.size = w.heap.size + 1 → wpList Try.prog ops Q rest (a.put o.dst (.slice (some ⟨w.heap.size, 0, none⟩) 1 1)) w') : wpList Try.prog ops Q (o :: rest) a w := by
  obtain ⟨i0, hi0, hz0, hz1, hz2⟩ := info_parts infoInt19
  refine wpList_buildSlice hgd 76 3 1 _ ho #[.int .i64 v0] i0 _ Try.underlying76 hi0 hz0 (by rw [hz1]; decide) (by rw [hz1]; decide) (fill_i1 w o a x0 v0 i0 hz1 h0) ?_
  exact hk _ (sl_new1 w v0 r0) ((Below.refl _ _).alloc (Nat.le_refl _) _) (by simp)
set_option maxRecDepth 100000 in
theorem bg1 {w : World} {ops : Array Oper} {rest : List Oper} {o : Oper} {a : Act} {Q : Exit → Act → World → Prop} (gk : Nat) (want : Bool) (gt : Tmp) (hgd : o.guard = some (gk, want)) (x0 : Operand)
    (ho : o.op = .buildSlice 76 1 #[(0, x0)]) (hdst : (ops[gk]?).bind (·.dst) = some gt) (hv : a.eval (.tmp gt) = .bool want) (v0 : Int) (h0 : a.eval x0 = .int .i64 v0) (r0 : SI64 v0)
    (hk : ∀ w', Sl .i64 w' (some ⟨w.heap.size, 0, none⟩) 1 [v0] → Below w.heap.size w w' → w'.heap.size = w.heap.size + 1 → wpList Try.prog ops Q rest (a.put o.dst (.slice (some ⟨w.heap.size, 0, none⟩) 1 1)) w') : wpList Try.prog ops Q (o :: rest) a w := by
  obtain ⟨i0, hi0, hz0, hz1, hz2⟩ := info_parts infoInt19
  have hw := lg_wanted gk want gt hgd hdst hv
  refine wpList_step fun K hK => ?_
  simp only [hw, if_true]
  refine wp_buildSlice 76 3 1 _ ho #[.int .i64 v0] i0 _ Try.underlying76 hi0 hz0 (by rw [hz1]; decide) (by rw [hz1]; decide) (fill_i1 w o a x0 v0 i0 hz1 h0) ?_
  exact hK _ _ (hk _ (sl_new1 w v0 r0) ((Below.refl _ _).alloc (Nat.le_refl _) _) (by simp))
theorem sl_new2 (w : World) (v0 v1 : Int) (r0 : SI64 v0) (r1 : SI64 v1) : Sl .i64 (w.alloc (.cells #[.int .i64 v0, .int .i64 v1] 3)) (some ⟨w.heap.size, 0, none⟩) 2 [v0, v1] := by
  have hr := Row.new w 3 [.int .i64 v0, .int .i64 v1]
  refine ⟨rfl, by decide, ?_, .inr ⟨_, 0, rfl, by simp, ?_⟩⟩
  · intro q hq
    simp at hq
    rcases hq with rfl | rfl
    · exact wf64 r0
    · exact wf64 r1
  · intro k hk
    rw [Nat.zero_add]
    have hc := hr.cellV k
    rcases k with _ | _ | k
    · exact hc
    · exact hc
    · omega
theorem fill_i2 (w : World) (o : Oper) (a : Act) (x0 x1 : Operand) (v0 v1 : Int) (i0 : TypeInfo) (hz1 : i0.size = 1) (h0 : a.eval x0 = .int .i64 v0) (h1 : a.eval x1 = .int .i64 v1) : Instr.fill (fun i => some (i * i0.size, i0.size)) ((Array.range (2 * i0.size)).map ((Value.int .i64 0).cells[· % (Value.int .i64 0).cells.size]!)) ((#[(0, x0), (1, x1)] : Array (Nat × Operand)).map fun (i, x) => (i, a.eval x)).toList = some #[.int .i64 v0, .int .i64 v1] := by
  rw [hz1]; simp only [List.map_toArray, List.map_cons, List.map_nil, h0, h1]; go_simp; first | done | rfl
set_option maxRecDepth 100000 in
theorem bi2 {w : World} {ops : Array Oper} {rest : List Oper} {o : Oper} {a : Act} {Q : Exit → Act → World → Prop} (hgd : o.guard = none) (x0 x1 : Operand)
    (ho : o.op = .buildSlice 76 2 #[(0, x0), (1, x1)]) (v0 v1 : Int) (h0 : a.eval x0 = .int .i64 v0) (h1 : a.eval x1 = .int .i64 v1) (r0 : SI64 v0) (r1 : SI64 v1)
    (hk : ∀ w', Sl .i64 w' (some ⟨w.heap.size, 0, none⟩) 2 [v0, v1] → Below w.heap.size w w' → w'.heap.size = w.heap.size + 1 → wpList Try.prog ops Q rest (a.put o.dst (.slice (some ⟨w.heap.size, 0, none⟩) 2 2)) w') : wpList Try.prog ops Q (o :: rest) a w := by
  obtain ⟨i0, hi0, hz0, hz1, hz2⟩ := info_parts infoInt19
  refine wpList_buildSlice hgd 76 3 2 _ ho #[.int .i64 v0, .int .i64 v1] i0 _ Try.underlying76 hi0 hz0 (by rw [hz1]; decide) (by rw [hz1]; decide) (fill_i2 w o a x0 x1 v0 v1 i0 hz1 h0 h1) ?_
  exact hk _ (sl_new2 w v0 v1 r0 r1) ((Below.refl _ _).alloc (Nat.le_refl _) _) (by simp)
set_option maxRecDepth 100000 in
theorem bg2 {w : World} {ops : Array Oper} {rest : List Oper} {o : Oper} {a : Act} {Q : Exit → Act → World → Prop} (gk : Nat) (want : Bool) (gt : Tmp) (hgd : o.guard = some (gk, want)) (x0 x1 : Operand)
    (ho : o.op = .buildSlice 76 2 #[(0, x0), (1, x1)]) (hdst : (ops[gk]?).bind (·.dst) = some gt) (hv : a.eval (.tmp gt) = .bool want) (v0 v1 : Int) (h0 : a.eval x0 = .int .i64 v0) (h1 : a.eval x1 = .int .i64 v1) (r0 : SI64 v0) (r1 : SI64 v1)
    (hk : ∀ w', Sl .i64 w' (some ⟨w.heap.size, 0, none⟩) 2 [v0, v1] → Below w.heap.size w w' → w'.heap.size = w.heap.size + 1 → wpList Try.prog ops Q rest (a.put o.dst (.slice (some ⟨w.heap.size, 0, none⟩) 2 2)) w') : wpList Try.prog ops Q (o :: rest) a w := by
  obtain ⟨i0, hi0, hz0, hz1, hz2⟩ := info_parts infoInt19
  have hw := lg_wanted gk want gt hgd hdst hv
  refine wpList_step fun K hK => ?_
  simp only [hw, if_true]
  refine wp_buildSlice 76 3 2 _ ho #[.int .i64 v0, .int .i64 v1] i0 _ Try.underlying76 hi0 hz0 (by rw [hz1]; decide) (by rw [hz1]; decide) (fill_i2 w o a x0 x1 v0 v1 i0 hz1 h0 h1) ?_
  exact hK _ _ (hk _ (sl_new2 w v0 v1 r0 r1) ((Below.refl _ _).alloc (Nat.le_refl _) _) (by simp))
theorem sl_new3 (w : World) (v0 v1 v2 : Int) (r0 : SI64 v0) (r1 : SI64 v1) (r2 : SI64 v2) : Sl .i64 (w.alloc (.cells #[.int .i64 v0, .int .i64 v1, .int .i64 v2] 3)) (some ⟨w.heap.size, 0, none⟩) 3 [v0, v1, v2] := by
  have hr := Row.new w 3 [.int .i64 v0, .int .i64 v1, .int .i64 v2]
  refine ⟨rfl, by decide, ?_, .inr ⟨_, 0, rfl, by simp, ?_⟩⟩
  · intro q hq
    simp at hq
    rcases hq with rfl | rfl | rfl
    · exact wf64 r0
    · exact wf64 r1
    · exact wf64 r2
  · intro k hk
    rw [Nat.zero_add]
    have hc := hr.cellV k
    rcases k with _ | _ | _ | k
    · exact hc
    · exact hc
    · exact hc
    · omega
theorem fill_i3 (w : World) (o : Oper) (a : Act) (x0 x1 x2 : Operand) (v0 v1 v2 : Int) (i0 : TypeInfo) (hz1 : i0.size = 1) (h0 : a.eval x0 = .int .i64 v0) (h1 : a.eval x1 = .int .i64 v1) (h2 : a.eval x2 = .int .i64 v2) : Instr.fill (fun i => some (i * i0.size, i0.size)) ((Array.range (3 * i0.size)).map ((Value.int .i64 0).cells[· % (Value.int .i64 0).cells.size]!)) ((#[(0, x0), (1, x1), (2, x2)] : Array (Nat × Operand)).map fun (i, x) => (i, a.eval x)).toList = some #[.int .i64 v0, .int .i64 v1, .int .i64 v2] := by
  rw [hz1]; simp only [List.map_toArray, List.map_cons, List.map_nil, h0, h1, h2]; go_simp; first | done | rfl
set_option maxRecDepth 100000 in
theorem bi3 {w : World} {ops : Array Oper} {rest : List Oper} {o : Oper} {a : Act} {Q : Exit → Act → World → Prop} (hgd : o.guard = none) (x0 x1 x2 : Operand)
    (ho : o.op = .buildSlice 76 3 #[(0, x0), (1, x1), (2, x2)]) (v0 v1 v2 : Int) (h0 : a.eval x0 = .int .i64 v0) (h1 : a.eval x1 = .int .i64 v1) (h2 : a.eval x2 = .int .i64 v2) (r0 : SI64 v0) (r1 : SI64 v1) (r2 : SI64 v2)
    (hk : ∀ w', Sl .i64 w' (some ⟨w.heap.size, 0, none⟩) 3 [v0, v1, v2] → Below w.heap.size w w' → w'.heap.size = w.heap.size + 1 → wpList Try.prog ops Q rest (a.put o.dst (.slice (some ⟨w.heap.size, 0, none⟩) 3 3)) w') : wpList Try.prog ops Q (o :: rest) a w := by
  obtain ⟨i0, hi0, hz0, hz1, hz2⟩ := info_parts infoInt19
  refine wpList_buildSlice hgd 76 3 3 _ ho #[.int .i64 v0, .int .i64 v1, .int .i64 v2] i0 _ Try.underlying76 hi0 hz0 (by rw [hz1]; decide) (by rw [hz1]; decide) (fill_i3 w o a x0 x1 x2 v0 v1 v2 i0 hz1 h0 h1 h2) ?_
  exact hk _ (sl_new3 w v0 v1 v2 r0 r1 r2) ((Below.refl _ _).alloc (Nat.le_refl _) _) (by simp)
set_option maxRecDepth 100000 in
theorem bg3 {w : World} {ops : Array Oper} {rest : List Oper} {o : Oper} {a : Act} {Q : Exit → Act → World → Prop} (gk : Nat) (want : Bool) (gt : Tmp) (hgd : o.guard = some (gk, want)) (x0 x1 x2 : Operand)
    (ho : o.op = .buildSlice 76 3 #[(0, x0), (1, x1), (2, x2)]) (hdst : (ops[gk]?).bind (·.dst) = some gt) (hv : a.eval (.tmp gt) = .bool want) (v0 v1 v2 : Int) (h0 : a.eval x0 = .int .i64 v0) (h1 : a.eval x1 = .int .i64 v1) (h2 : a.eval x2 = .int .i64 v2) (r0 : SI64 v0) (r1 : SI64 v1) (r2 : SI64 v2)
    (hk : ∀ w', Sl .i64 w' (some ⟨w.heap.size, 0, none⟩) 3 [v0, v1, v2] → Below w.heap.size w w' → w'.heap.size = w.heap.size + 1 → wpList Try.prog ops Q rest (a.put o.dst (.slice (some ⟨w.heap.size, 0, none⟩) 3 3)) w') : wpList Try.prog ops Q (o :: rest) a w := by
  obtain ⟨i0, hi0, hz0, hz1, hz2⟩ := info_parts infoInt19
  have hw := lg_wanted gk want gt hgd hdst hv
  refine wpList_step fun K hK => ?_
  simp only [hw, if_true]
  refine wp_buildSlice 76 3 3 _ ho #[.int .i64 v0, .int .i64 v1, .int .i64 v2] i0 _ Try.underlying76 hi0 hz0 (by rw [hz1]; decide) (by rw [hz1]; decide) (fill_i3 w o a x0 x1 x2 v0 v1 v2 i0 hz1 h0 h1 h2) ?_
  exact hK _ _ (hk _ (sl_new3 w v0 v1 v2 r0 r1 r2) ((Below.refl _ _).alloc (Nat.le_refl _) _) (by simp))
theorem sl_new4 (w : World) (v0 v1 v2 v3 : Int) (r0 : SI64 v0) (r1 : SI64 v1) (r2 : SI64 v2) (r3 : SI64 v3) : Sl .i64 (w.alloc (.cells #[.int .i64 v0, .int .i64 v1, .int .i64 v2, .int .i64 v3] 3)) (some ⟨w.heap.size, 0, none⟩) 4 [v0, v1, v2, v3] := by
  have hr := Row.new w 3 [.int .i64 v0, .int .i64 v1, .int .i64 v2, .int .i64 v3]
  refine ⟨rfl, by decide, ?_, .inr ⟨_, 0, rfl, by simp, ?_⟩⟩
  · intro q hq
    simp at hq
    rcases hq with rfl | rfl | rfl | rfl
    · exact wf64 r0
    · exact wf64 r1
    · exact wf64 r2
    · exact wf64 r3
  · intro k hk
    rw [Nat.zero_add]
    have hc := hr.cellV k
    rcases k with _ | _ | _ | _ | k
    · exact hc
    · exact hc
    · exact hc
    · exact hc
    · omega
theorem fill_i4 (w : World) (o : Oper) (a : Act) (x0 x1 x2 x3 : Operand) (v0 v1 v2 v3 : Int) (i0 : TypeInfo) (hz1 : i0.size = 1) (h0 : a.eval x0 = .int .i64 v0) (h1 : a.eval x1 = .int .i64 v1) (h2 : a.eval x2 = .int .i64 v2) (h3 : a.eval x3 = .int .i64 v3) : Instr.fill (fun i => some (i * i0.size, i0.size)) ((Array.range (4 * i0.size)).map ((Value.int .i64 0).cells[· % (Value.int .i64 0).cells.size]!)) ((#[(0, x0), (1, x1), (2, x2), (3, x3)] : Array (Nat × Operand)).map fun (i, x) => (i, a.eval x)).toList = some #[.int .i64 v0, .int .i64 v1, .int .i64 v2, .int .i64 v3] := by
  rw [hz1]; simp only [List.map_toArray, List.map_cons, List.map_nil, h0, h1, h2, h3]; go_simp; first | done | rfl
set_option maxRecDepth 100000 in
theorem bi4 {w : World} {ops : Array Oper} {rest : List Oper} {o : Oper} {a : Act} {Q : Exit → Act → World → Prop} (hgd : o.guard = none) (x0 x1 x2 x3 : Operand)
    (ho : o.op = .buildSlice 76 4 #[(0, x0), (1, x1), (2, x2), (3, x3)]) (v0 v1 v2 v3 : Int) (h0 : a.eval x0 = .int .i64 v0) (h1 : a.eval x1 = .int .i64 v1) (h2 : a.eval x2 = .int .i64 v2) (h3 : a.eval x3 = .int .i64 v3) (r0 : SI64 v0) (r1 : SI64 v1) (r2 : SI64 v2) (r3 : SI64 v3)
    (hk : ∀ w', Sl .i64 w' (some ⟨w.heap.size, 0, none⟩) 4 [v0, v1, v2, v3] → Below w.heap.size w w' → w'.heap.size = w.heap.size + 1 → wpList Try.prog ops Q rest (a.put o.dst (.slice (some ⟨w.heap.size, 0, none⟩) 4 4)) w') : wpList Try.prog ops Q (o :: rest) a w := by
  obtain ⟨i0, hi0, hz0, hz1, hz2⟩ := info_parts infoInt19
  refine wpList_buildSlice hgd 76 3 4 _ ho #[.int .i64 v0, .int .i64 v1, .int .i64 v2, .int .i64 v3] i0 _ Try.underlying76 hi0 hz0 (by rw [hz1]; decide) (by rw [hz1]; decide) (fill_i4 w o a x0 x1 x2 x3 v0 v1 v2 v3 i0 hz1 h0 h1 h2 h3) ?_
  exact hk _ (sl_new4 w v0 v1 v2 v3 r0 r1 r2 r3) ((Below.refl _ _).alloc (Nat.le_refl _) _) (by simp)
set_option maxRecDepth 100000 in
theorem bg4 {w : World} {ops : Array Oper} {rest : List Oper} {o : Oper} {a : Act} {Q : Exit → Act → World → Prop} (gk : Nat) (want : Bool) (gt : Tmp) (hgd : o.guard = some (gk, want)) (x0 x1 x2 x3 : Operand)
    (ho : o.op = .buildSlice 76 4 #[(0, x0), (1, x1), (2, x2), (3, x3)]) (hdst : (ops[gk]?).bind (·.dst) = some gt) (hv : a.eval (.tmp gt) = .bool want) (v0 v1 v2 v3 : Int) (h0 : a.eval x0 = .int .i64 v0) (h1 : a.eval x1 = .int .i64 v1) (h2 : a.eval x2 = .int .i64 v2) (h3 : a.eval x3 = .int .i64 v3) (r0 : SI64 v0) (r1 : SI64 v1) (r2 : SI64 v2) (r3 : SI64 v3)
    (hk : ∀ w', Sl .i64 w' (some ⟨w.heap.size, 0, none⟩) 4 [v0, v1, v2, v3] → Below w.heap.size w w' → w'.heap.size = w.heap.size + 1 → wpList Try.prog ops Q rest (a.put o.dst (.slice (some ⟨w.heap.size, 0, none⟩) 4 4)) w') : wpList Try.prog ops Q (o :: rest) a w := by
  obtain ⟨i0, hi0, hz0, hz1, hz2⟩ := info_parts infoInt19
  have hw := lg_wanted gk want gt hgd hdst hv
  refine wpList_step fun K hK => ?_
  simp only [hw, if_true]
  refine wp_buildSlice 76 3 4 _ ho #[.int .i64 v0, .int .i64 v1, .int .i64 v2, .int .i64 v3] i0 _ Try.underlying76 hi0 hz0 (by rw [hz1]; decide) (by rw [hz1]; decide) (fill_i4 w o a x0 x1 x2 x3 v0 v1 v2 v3 i0 hz1 h0 h1 h2 h3) ?_
  exact hK _ _ (hk _ (sl_new4 w v0 v1 v2 v3 r0 r1 r2 r3) ((Below.refl _ _).alloc (Nat.le_refl _) _) (by simp))
theorem sl_new5 (w : World) (v0 v1 v2 v3 v4 : Int) (r0 : SI64 v0) (r1 : SI64 v1) (r2 : SI64 v2) (r3 : SI64 v3) (r4 : SI64 v4) : Sl .i64 (w.alloc (.cells #[.int .i64 v0, .int .i64 v1, .int .i64 v2, .int .i64 v3, .int .i64 v4] 3)) (some ⟨w.heap.size, 0, none⟩) 5 [v0, v1, v2, v3, v4] := by
  have hr := Row.new w 3 [.int .i64 v0, .int .i64 v1, .int .i64 v2, .int .i64 v3, .int .i64 v4]
  refine ⟨rfl, by decide, ?_, .inr ⟨_, 0, rfl, by simp, ?_⟩⟩
  · intro q hq
    simp at hq
    rcases hq with rfl | rfl | rfl | rfl | rfl
    · exact wf64 r0
    · exact wf64 r1
    · exact wf64 r2
    · exact wf64 r3
    · exact wf64 r4
  · intro k hk
    rw [Nat.zero_add]
    have hc := hr.cellV k
    rcases k with _ | _ | _ | _ | _ | k
    · exact hc
    · exact hc
    · exact hc
    · exact hc
    · exact hc
    · omega
theorem fill_i5 (w : World) (o : Oper) (a : Act) (x0 x1 x2 x3 x4 : Operand) (v0 v1 v2 v3 v4 : Int) (i0 : TypeInfo) (hz1 : i0.size = 1) (h0 : a.eval x0 = .int .i64 v0) (h1 : a.eval x1 = .int .i64 v1) (h2 : a.eval x2 = .int .i64 v2) (h3 : a.eval x3 = .int .i64 v3) (h4 : a.eval x4 = .int .i64 v4) : Instr.fill (fun i => some (i * i0.size, i0.size)) ((Array.range (5 * i0.size)).map ((Value.int .i64 0).cells[· % (Value.int .i64 0).cells.size]!)) ((#[(0, x0), (1, x1), (2, x2), (3, x3), (4, x4)] : Array (Nat × Operand)).map fun (i, x) => (i, a.eval x)).toList = some #[.int .i64 v0, .int .i64 v1, .int .i64 v2, .int .i64 v3, .int .i64 v4] := by
  rw [hz1]; simp only [List.map_toArray, List.map_cons, List.map_nil, h0, h1, h2, h3, h4]; go_simp; first | done | rfl
set_option maxRecDepth 100000 in
theorem bi5 {w : World} {ops : Array Oper} {rest : List Oper} {o : Oper} {a : Act} {Q : Exit → Act → World → Prop} (hgd : o.guard = none) (x0 x1 x2 x3 x4 : Operand)
    (ho : o.op = .buildSlice 76 5 #[(0, x0), (1, x1), (2, x2), (3, x3), (4, x4)]) (v0 v1 v2 v3 v4 : Int) (h0 : a.eval x0 = .int .i64 v0) (h1 : a.eval x1 = .int .i64 v1) (h2 : a.eval x2 = .int .i64 v2) (h3 : a.eval x3 = .int .i64 v3) (h4 : a.eval x4 = .int .i64 v4) (r0 : SI64 v0) (r1 : SI64 v1) (r2 : SI64 v2) (r3 : SI64 v3) (r4 : SI64 v4)
    (hk : ∀ w', Sl .i64 w' (some ⟨w.heap.size, 0, none⟩) 5 [v0, v1, v2, v3, v4] → Below w.heap.size w w' → w'.heap.size = w.heap.size + 1 → wpList Try.prog ops Q rest (a.put o.dst (.slice (some ⟨w.heap.size, 0, none⟩) 5 5)) w') : wpList Try.prog ops Q (o :: rest) a w := by
  obtain ⟨i0, hi0, hz0, hz1, hz2⟩ := info_parts infoInt19
  refine wpList_buildSlice hgd 76 3 5 _ ho #[.int .i64 v0, .int .i64 v1, .int .i64 v2, .int .i64 v3, .int .i64 v4] i0 _ Try.underlying76 hi0 hz0 (by rw [hz1]; decide) (by rw [hz1]; decide) (fill_i5 w o a x0 x1 x2 x3 x4 v0 v1 v2 v3 v4 i0 hz1 h0 h1 h2 h3 h4) ?_
  exact hk _ (sl_new5 w v0 v1 v2 v3 v4 r0 r1 r2 r3 r4) ((Below.refl _ _).alloc (Nat.le_refl _) _) (by simp)
set_option maxRecDepth 100000 in
theorem bg5 {w : World} {ops : Array Oper} {rest : List Oper} {o : Oper} {a : Act} {Q : Exit → Act → World → Prop} (gk : Nat) (want : Bool) (gt : Tmp) (hgd : o.guard = some (gk, want)) (x0 x1 x2 x3 x4 : Operand)
    (ho : o.op = .buildSlice 76 5 #[(0, x0), (1, x1), (2, x2), (3, x3), (4, x4)]) (hdst : (ops[gk]?).bind (·.dst) = some gt) (hv : a.eval (.tmp gt) = .bool want) (v0 v1 v2 v3 v4 : Int) (h0 : a.eval x0 = .int .i64 v0) (h1 : a.eval x1 = .int .i64 v1) (h2 : a.eval x2 = .int .i64 v2) (h3 : a.eval x3 = .int .i64 v3) (h4 : a.eval x4 = .int .i64 v4) (r0 : SI64 v0) (r1 : SI64 v1) (r2 : SI64 v2) (r3 : SI64 v3) (r4 : SI64 v4)
    (hk : ∀ w', Sl .i64 w' (some ⟨w.heap.size, 0, none⟩) 5 [v0, v1, v2, v3, v4] → Below w.heap.size w w' → w'.heap.size = w.heap.size + 1 → wpList Try.prog ops Q rest (a.put o.dst (.slice (some ⟨w.heap.size, 0, none⟩) 5 5)) w') : wpList Try.prog ops Q (o :: rest) a w := by
  obtain ⟨i0, hi0, hz0, hz1, hz2⟩ := info_parts infoInt19
  have hw := lg_wanted gk want gt hgd hdst hv
  refine wpList_step fun K hK => ?_
  simp only [hw, if_true]
  refine wp_buildSlice 76 3 5 _ ho #[.int .i64 v0, .int .i64 v1, .int .i64 v2, .int .i64 v3, .int .i64 v4] i0 _ Try.underlying76 hi0 hz0 (by rw [hz1]; decide) (by rw [hz1]; decide) (fill_i5 w o a x0 x1 x2 x3 x4 v0 v1 v2 v3 v4 i0 hz1 h0 h1 h2 h3 h4) ?_
  exact hK _ _ (hk _ (sl_new5 w v0 v1 v2 v3 v4 r0 r1 r2 r3 r4) ((Below.refl _ _).alloc (Nat.le_refl _) _) (by simp))
-- ---- Within, fit
def allIn (m : Int) (l : List Int) : Bool := l.all (fun x => in64 x 0 m)
theorem pin (n lo hi : Int) (v : Bool) (hv : in64 n lo hi = v) (w : World) : Calls Try.prog 91 #[.int .i64 n, .int .i64 lo, .int .i64 hi] w fun e w' => e = .returned (.bool v) ∧ w = w' := by
  subst hv; exact within n lo hi w
set_option maxHeartbeats 1000000 in
theorem lwithin (most : Int) (a : Option Addr) (len cap : Nat) (l : List Int) (w : World) (hrow : Sl .i64 w a len l) :
    Calls Try.prog 90 #[.int .i64 most, .slice a len cap] w fun e w' => e = .returned (.bool (allIn most l)) ∧ w = w' := by
  obtain ⟨hl, hmax, hb, hc⟩ := hrow
  by_cases h0 : len = 0
  · subst h0
    have : l = [] := List.eq_nil_of_length_eq_zero hl
    subst this
    clear hb hc hl hmax
    go_enter Try.func90, Try.ntmps90
    go_wp2
    go_loop [9] (fun i => i = .int .i64 0) (fun _ => 0)
    case atStart => exact rfl
    case round =>
      obtain rfl := hrel
      go_wp2
      go_ret
      exact ⟨one (vbool rfl), rfl⟩
  · obtain ⟨b, off, rfl, hlt0, hcell⟩ := hc.resolve_left h0
    clear hlt0
    have HC := Lib.hid hcell
    have HL := Lib.hid hl
    clear hcell hb hc hl
    go_enter Try.func90, Try.ntmps90
    go_wp2
    go_loop [9] (fun i => ∃ (k : Nat), k ≤ len ∧ i = .int .i64 k ∧ Hid (allIn most l = allIn most (l.drop k))) (fun i => len - (intOf i).toNat)
    case atStart => exact ⟨0, Nat.zero_le _, rfl, Lib.hid rfl⟩
    case round =>
      obtain ⟨k, hk, rfl, HS⟩ := hrel
      by_cases hlt : k < len
      · have hcell := HC.out k hlt
        have hd := drop_getD l k (by rw [HL.out]; exact hlt)
        have hs := HS.out
        rw [hd] at hs
        clear hd
        obtain ⟨n, hn⟩ : ∃ n, l.getD k 0 = n := ⟨_, rfl⟩
        rw [hn] at hs hcell
        clear hn
        obtain ⟨v, hv⟩ : ∃ v, in64 n 0 most = v := ⟨_, rfl⟩
        have HV := Lib.hid hv
        simp only [allIn, List.all_cons, hv] at hs
        clear hv
        cases v
        · have HS' := Lib.hid (show allIn most l = false from hs)
          clear hs
          go_wp2_with (go_at_call 91; (with_reducible refine (pin n 0 most false HV.out _).mono ?_); rintro e w' ⟨rfl, rfl⟩)
          go_ret
          exact ⟨one (vbool (by rw [HS'.out])), rfl⟩
        · have HS' := Lib.hid (show allIn most l = allIn most (l.drop (k + 1)) from hs)
          clear hs
          go_wp2_with (go_at_call 91; (with_reducible refine (pin n 0 most true HV.out _).mono ?_); rintro e w' ⟨rfl, rfl⟩)
          go_round
          case rel => exact ⟨k + 1, by omega, by go_num, HS'⟩
          case measure => simp [intOf]; omega
      · obtain rfl : k = len := by omega
        have e : l.drop k = [] := List.drop_eq_nil_of_le (by rw [HL.out]; omega)
        have hs := HS.out
        rw [e] at hs
        have HS' := Lib.hid hs
        clear hs e
        go_wp2
        go_ret
        exact ⟨one (vbool (by rw [HS'.out]; rfl)), rfl⟩
def T40s (l : List Int) : Prop := ∀ x ∈ l, 0 ≤ x ∧ x ≤ 1099511627776
theorem T40s_sum {l : List Int} (h : T40s l) : 0 ≤ l.sum ∧ l.sum ≤ (l.length : Int) * 1099511627776 := by
  induction l with
  | nil => simp
  | cons x l ih =>
    have h1 := h x (by simp)
    have h2 := ih (fun y hy => h y (by simp [hy]))
    simp only [List.sum_cons, List.length_cons]
    omega
set_option maxHeartbeats 1000000 in
theorem lfit (most : Int) (a : Option Addr) (len cap : Nat) (l : List Int) (w : World) (hrow : Sl .i64 w a len l) (hp : T40s l) (h0 : 0 < len) (h8 : len ≤ 8) :
    Calls Try.prog 93 #[.int .i64 most, .slice a len cap] w fun e w' => e = .returned (.bool (decide (l.sum ≤ most))) ∧ w = w' := by
  obtain ⟨hl, hmax, hb, hc⟩ := hrow
  obtain ⟨b, off, rfl, hlt0, hcell⟩ := hc.resolve_left (by omega)
  clear hlt0
  have HC := Lib.hid hcell
  have HL := Lib.hid hl
  have HP := Lib.hid hp
  clear hcell hb hc hl hp
  go_enter Try.func93, Try.ntmps93
  go_wp2
  go_loop [5, 12] (fun s i => ∃ (k : Nat) (x : Int), k ≤ len ∧ i = .int .i64 k ∧ s = .int .i64 x ∧ 0 ≤ x ∧ x ≤ 8796093022208 ∧ Hid (x = (l.take k).sum)) (fun _ i => len - (intOf i).toNat)
  case atStart => exact ⟨0, 0, Nat.zero_le _, rfl, rfl, by omega, by omega, Lib.hid rfl⟩
  case round =>
    obtain ⟨k, x, hk, rfl, rfl, x1, x2, HS⟩ := hrel
    by_cases hlt : k < len
    · have hcell := HC.out k hlt
      have hk' : k < l.length := by rw [HL.out]; exact hlt
      have e : l.getD k 0 = l[k] := by simp [hk']
      obtain ⟨n, hn⟩ : ∃ n, l[k] = n := ⟨_, rfl⟩
      have hnx := HP.out l[k] (List.getElem_mem _)
      have hst : (l.take (k + 1)).sum = x + n := by
        rw [List.take_succ_eq_append_getElem hk', List.sum_append, HS.out, ← hn]; simp
      have hsm := T40s_sum (l := l.take (k + 1)) (fun y hy => HP.out y (List.mem_of_mem_take hy))
      rw [hst] at hsm
      have hln : ((l.take (k + 1)).length : Int) ≤ 8 := by rw [List.length_take, HL.out]; omega
      have hub : x + n ≤ 8796093022208 := by have := hsm.2; omega
      rw [e, hn] at hcell
      rw [hn] at hnx
      have HT := Lib.hid hst
      have hn0 := hnx.1
      have hn1 := hnx.2
      clear hst hsm hln hnx e hn hk'
      go_wp2_with (go_at_call 144; (with_reducible refine (nadd_in _ _ _ ?_ ?_ ?_ ?_ ?_ ?_).mono ?_); (focus omega); (focus omega); (focus omega); (focus omega); (focus omega); (focus omega); rintro e w' ⟨rfl, rfl⟩)
      go_round
      case rel => exact ⟨k + 1, x + n, by omega, by go_num, rfl, by omega, by omega, Lib.hid HT.out.symm⟩
      case measure => simp [intOf]; omega
    · obtain rfl : k = len := by omega
      have e : l.take k = l := List.take_of_length_le (by rw [HL.out]; omega)
      have hs := HS.out
      rw [e] at hs
      obtain ⟨v, hv⟩ : ∃ v, decide (l.sum ≤ most) = v := ⟨_, rfl⟩
      have HV := Lib.hid hv
      rw [← hs] at hv
      have HX := Lib.hid hs
      clear hs e
      by_cases hm : x ≤ most
      · rw [decide_eq_true hm] at hv
        subst hv
        go_wp2
        go_ret
        exact ⟨one (vbool (by rw [HV.out])), rfl⟩
      · rw [decide_eq_false hm] at hv
        subst hv
        go_wp2
        go_ret
        exact ⟨one (vbool (by rw [HV.out])), rfl⟩
-- ---- holdFits
theorem allIn1 (m x : Int) : allIn m [x] = in64 x 0 m := by simp [allIn]
theorem allIn2 (m x y : Int) : allIn m [x, y] = (in64 x 0 m && in64 y 0 m) := by simp [allIn]
theorem allIn3 (m x y z : Int) : allIn m [x, y, z] = (in64 x 0 m && (in64 y 0 m && in64 z 0 m)) := by simp [allIn]
set_option maxRecDepth 100000 in
set_option maxHeartbeats 8000000 in
theorem pholdfits (s : Hd) (w : World) (h : s.fit) : Calls Try.prog 143 #[.agg s.cells.toArray] w fun x w' => x = .returned (.bool s.ok) ∧ Below w.heap.size w w' := by
  obtain ⟨i1, i2, i3, i4, i5, sp⟩ := s
  have HN := Lib.hid (fun w => cname sp w h.sp)
  obtain ⟨b0, h0⟩ : ∃ b, in64 i1 1 2147483648 = b := ⟨_, rfl⟩
  obtain ⟨b1, h1⟩ : ∃ b, in64 i2 0 7 = b := ⟨_, rfl⟩
  obtain ⟨b2, h2⟩ : ∃ b, in64 i3 0 1099511627776 = b := ⟨_, rfl⟩
  obtain ⟨b3, h3⟩ : ∃ b, (in64 i4 0 1099511627776 && in64 i5 0 1099511627776) = b := ⟨_, rfl⟩
  obtain ⟨b5, h5⟩ : ∃ b, nameV sp = b := ⟨_, rfl⟩
  have HX := Lib.hid (show Hd.ok ⟨i1, i2, i3, i4, i5, sp⟩ = (b0 && (b1 && (b2 && (b3 && b5)))) by unfold Hd.ok T31 T40; dsimp only; rw [← h0, ← h1, ← h2, ← h3, ← h5]; simp only [Bool.and_assoc])
  rw [h5] at HN
  have H0 := Lib.hid h0
  have H1 := Lib.hid (show allIn 7 [i2] = b1 by rw [allIn1]; exact h1)
  have H2 := Lib.hid (show allIn 1099511627776 [i3] = b2 by rw [allIn1]; exact h2)
  have H3 := Lib.hid (show allIn 1099511627776 [i4, i5] = b3 by rw [allIn2]; exact h3)
  have F2 := Lib.hid (show SI64 i2 from h.cl)
  have F3 := Lib.hid (show SI64 i3 from h.by')
  have F4 := Lib.hid (show SI64 i4 from h.un)
  have F5 := Lib.hid (show SI64 i5 from h.ti)
  clear h h0 h1 h2 h3 h5
  rw [show (Hd.cells ⟨i1, i2, i3, i4, i5, sp⟩) = [.int .i64 i1, .int .i64 i2, .int .i64 i3, .int .i64 i4, .int .i64 i5, .string sp] from rfl]
  rcases bs5 b0 b1 b2 b3 b5 with (rfl | ⟨rfl, rfl⟩ | ⟨rfl, rfl, rfl⟩ | ⟨rfl, rfl, rfl, rfl⟩ | ⟨rfl, rfl, rfl, rfl, rfl⟩) | ⟨rfl, rfl, rfl, rfl, rfl⟩
  all_goals
    go_enter Try.func143, Try.ntmps143
    go_wp2_with (first
      | (with_reducible refine box_row (o := ⟨some 1, _, _, _, _, _⟩) rfl _ _ rfl [.int .i64 i1, .int .i64 i2, .int .i64 i3, .int .i64 i4, .int .i64 i5, .string sp] rfl ?_; intro w1 hr1 hb1 hz1; have R1 := Lib.hid hr1; obtain ⟨c0, c1, c2, c3, c4, c5⟩ := hr1.h6; have B1 := Lib.hid hb1; have BZ := B1; have RZ := R1; clear hr1 hb1 hz1)
      | (go_at_call 128; with_reducible refine (HN.out _).mono ?_; rintro x w' ⟨rfl, rfl⟩)
      | (go_at_call 91; with_reducible refine (pin i1 1 2147483648 _ H0.out _).mono ?_; rintro x w' ⟨rfl, rfl⟩)
      | ((with_reducible refine bg1 (o := ⟨some 9, _, _, _, _, _⟩) 3 true 6 rfl _ rfl ?_ ?_ i2 ?_ F2.out ?_); (focus rfl); (focus (first | (go_simp; done) | (go_simp; rfl))); (focus (first | (go_simp; done) | (go_simp; rfl))); intro wb hs hb hz; have SA := Lib.hid hs; have RY := RZ; have BY := BZ; clear RZ BZ; have RZ := Lib.hid (RY.out.below hb RY.out.lt); have BZ := Lib.hid (BY.out.trans (hb.mono BY.out.size)); clear RY BY; clear c0 c1 c2 c3 c4 c5; obtain ⟨c0, c1, c2, c3, c4, c5⟩ := RZ.out.h6; clear hs hb hz)
      | ((with_reducible refine bg1 (o := ⟨some 15, _, _, _, _, _⟩) 9 true 12 rfl _ rfl ?_ ?_ i3 ?_ F3.out ?_); (focus rfl); (focus (first | (go_simp; done) | (go_simp; rfl))); (focus (first | (go_simp; done) | (go_simp; rfl))); intro wb hs hb hz; have SB := Lib.hid hs; have RY := RZ; have BY := BZ; clear RZ BZ; have RZ := Lib.hid (RY.out.below hb RY.out.lt); have BZ := Lib.hid (BY.out.trans (hb.mono BY.out.size)); clear RY BY; clear c0 c1 c2 c3 c4 c5; obtain ⟨c0, c1, c2, c3, c4, c5⟩ := RZ.out.h6; clear hs hb hz)
      | ((with_reducible refine bg2 (o := ⟨some 23, _, _, _, _, _⟩) 15 true 18 rfl _ _ rfl ?_ ?_ i4 i5 ?_ ?_ F4.out F5.out ?_); (focus rfl); (focus (first | (go_simp; done) | (go_simp; rfl))); (focus (first | (go_simp; done) | (go_simp; rfl))); (focus (first | (go_simp; done) | (go_simp; rfl))); intro wb hs hb hz; have SC := Lib.hid hs; have RY := RZ; have BY := BZ; clear RZ BZ; have RZ := Lib.hid (RY.out.below hb RY.out.lt); have BZ := Lib.hid (BY.out.trans (hb.mono BY.out.size)); clear RY BY; clear c0 c1 c2 c3 c4 c5; obtain ⟨c0, c1, c2, c3, c4, c5⟩ := RZ.out.h6; clear hs hb hz)
      | (go_at_call 90; with_reducible refine (lwithin 7 _ 1 1 [i2] _ SA.out).mono ?_; rw [H1.out]; rintro x w' ⟨rfl, rfl⟩)
      | (go_at_call 90; with_reducible refine (lwithin 1099511627776 _ 1 1 [i3] _ SB.out).mono ?_; rw [H2.out]; rintro x w' ⟨rfl, rfl⟩)
      | (go_at_call 90; with_reducible refine (lwithin 1099511627776 _ 2 2 [i4, i5] _ SC.out).mono ?_; rw [H3.out]; rintro x w' ⟨rfl, rfl⟩))
    go_ret
    exact ⟨one (vbool (by rw [HX.out]; simp)), BZ.out⟩
end Go.Proofs.Ytiopcojkdglapaa.W

namespace Go.Proofs.Ytiopcojkdglapaa.W
open Go Go.ChangeShapes Go.WideShapes Go.ChangeAt Go.RowKit
open Go.Proofs.Ytiopcojkdglapaa.P (enc dec)
open Go.Proofs.Ytiopcojkdglapaa.S

theorem pnan (x : Int) (w : World) : Calls Try.prog 157 #[.int .i64 x] w fun e w' => e = .returned (.bool false) ∧ w = w' := by
  go_enter Try.func157, Try.ntmps157
  go_wp2
  all_goals (go_ret; exact ⟨one (vbool (by simp)), rfl⟩)
def cmpI (x y : Int) : Int := if x < y then -1 else if y < x then 1 else 0
set_option maxHeartbeats 1000000 in
theorem pcmp (x y : Int) (w : World) : Calls Try.prog 155 #[.int .i64 x, .int .i64 y] w fun e w' => e = .returned (.int .i64 (cmpI x y)) ∧ w = w' := by
  unfold cmpI
  by_cases h1 : x < y
  · rw [if_pos h1]
    go_enter Try.func155, Try.ntmps155
    go_wp2_with (first
      | (go_at_call 157; (with_reducible refine (pnan x _).mono ?_); rintro e w' ⟨rfl, rfl⟩)
      | (go_at_call 157; (with_reducible refine (pnan y _).mono ?_); rintro e w' ⟨rfl, rfl⟩))
    go_ret
    exact ⟨rfl, rfl⟩
  · rw [if_neg h1]
    by_cases h2 : y < x
    · rw [if_pos h2]
      go_enter Try.func155, Try.ntmps155
      go_wp2_with (first
        | (go_at_call 157; (with_reducible refine (pnan x _).mono ?_); rintro e w' ⟨rfl, rfl⟩)
        | (go_at_call 157; (with_reducible refine (pnan y _).mono ?_); rintro e w' ⟨rfl, rfl⟩))
      go_ret
      exact ⟨rfl, rfl⟩
    · rw [if_neg h2]
      go_enter Try.func155, Try.ntmps155
      go_wp2_with (first
        | (go_at_call 157; (with_reducible refine (pnan x _).mono ?_); rintro e w' ⟨rfl, rfl⟩)
        | (go_at_call 157; (with_reducible refine (pnan y _).mono ?_); rintro e w' ⟨rfl, rfl⟩))
      go_ret
      exact ⟨rfl, rfl⟩
set_option maxHeartbeats 1000000 in
theorem pbyid (s t : Hd) (w : World) : Calls Try.prog 142 #[.agg s.cells.toArray, .agg t.cells.toArray] w fun e w' => e = .returned (.int .i64 (cmpI s.id t.id)) ∧ Below w.heap.size w w' := by
  obtain ⟨x1, x2, x3, x4, x5, xs⟩ := s
  obtain ⟨y1, y2, y3, y4, y5, ys⟩ := t
  go_enter Try.func142, Try.ntmps142
  go_wp2_with (first
    | ((with_reducible refine box_row (o := ⟨some 2, _, _, _, _, _⟩) rfl _ _ rfl [.int .i64 x1, .int .i64 x2, .int .i64 x3, .int .i64 x4, .int .i64 x5, .string xs] rfl ?_); intro w1 hr hb hz; have R1 := Lib.hid hr; have B1 := Lib.hid hb; clear hr hb hz)
    | ((with_reducible refine box_row (o := ⟨some 3, _, _, _, _, _⟩) rfl _ _ rfl [.int .i64 y1, .int .i64 y2, .int .i64 y3, .int .i64 y4, .int .i64 y5, .string ys] rfl ?_); intro w2 hr hb hz; obtain ⟨c0, c1, c2, c3, c4, c5⟩ := (R1.out.below hb R1.out.lt).h6; obtain ⟨d0, d1, d2, d3, d4, d5⟩ := hr.h6; have B2 := Lib.hid (B1.out.trans (hb.mono B1.out.size)); clear hr hb hz c1 c2 c3 c4 c5 d1 d2 d3 d4 d5)
    | (go_at_call 155; (with_reducible refine (pcmp x1 y1 _).mono ?_); rintro e w' ⟨rfl, rfl⟩))
  go_ret
  exact ⟨rfl, B2.out⟩
-- ---- Rise
def riseH : Option Int → List Hd → Bool
  | _, [] => true
  | p, s :: L => behH p s && riseH (some s.id) L
theorem chk_split (n : Int) : ∀ (L : List Hd) (p : Option Int), chkH n p L = (riseH p L && L.all (fun s => s.ok && decide (s.id < n)))
  | [], _ => rfl
  | s :: L, p => by
    rw [chkH_cons, chk_split n L (some s.id)]
    simp only [riseH, List.all_cons]
    cases s.ok <;> cases decide (s.id < n) <;> cases behH p s <;> cases riseH (some s.id) L <;> simp
theorem riseH_snoc : ∀ (L : List Hd) (p : Option Int) (s : Hd), riseH p (L ++ [s]) = (riseH p L && behH ((L.getLast?.map (·.id)).or p) s)
  | [], p, s => by simp [riseH]
  | x :: L, p, s => by
    rw [List.cons_append]
    simp only [riseH]
    rw [riseH_snoc L (some x.id) s]
    have : ((x :: L).getLast?.map (·.id)).or p = (L.getLast?.map (·.id)).or (some x.id) := by
      cases L with
      | nil => simp
      | cons y L => simp [List.getLast?_cons]
    rw [this]
    simp only [Bool.and_assoc]
theorem riseH_next (L : List Hd) (k : Nat) (x y : Hd) (hx : L[k]? = some x) (hy : L[k + 1]? = some y) : riseH none (L.take (k + 1 + 1)) = (riseH none (L.take (k + 1)) && decide (x.id < y.id)) := by
  have hk : k + 1 < L.length := (List.getElem?_eq_some_iff.1 hy).1
  have h1 : L.take (k + 1 + 1) = L.take (k + 1) ++ [y] := by
    rw [List.take_succ_eq_append_getElem hk]
    rw [List.getElem?_eq_getElem hk] at hy
    rw [Option.some.inj hy]
  rw [h1, riseH_snoc]
  have : (L.take (k + 1)).getLast? = L[k]? := by
    rw [List.getLast?_eq_getElem?, List.length_take, Nat.min_eq_left (by omega)]
    simp
  rw [this, hx]
  rfl
theorem riseH_take : ∀ (L : List Hd) (p : Option Int) (k : Nat), riseH p L = true → riseH p (L.take k) = true
  | [], _, _, _ => by simp [riseH]
  | s :: L, p, 0, _ => by simp [riseH]
  | s :: L, p, k + 1, h => by
    simp only [riseH, Bool.and_eq_true, List.take_succ_cons] at h ⊢
    exact ⟨h.1, riseH_take L _ k h.2⟩
theorem cmp_ge (x y : Int) (h : ¬ x < y) : (0 : Int) ≤ cmpI x y := by unfold cmpI; split; omega; split <;> omega
theorem cmp_lt (x y : Int) (h : x < y) : cmpI x y = -1 := by unfold cmpI; rw [if_pos h]
set_option maxRecDepth 100000 in
set_option maxHeartbeats 8000000 in
theorem prise (a : Option Addr) (n c : Nat) (L : List Hd) (w : World) (h : Ls hdE w a n c L) :
    Calls Try.prog 141 #[.slice a n c, .func (.func 142) #[] #[]] w fun x w' => x = .returned (.bool (riseH none L)) ∧ Below w.heap.size w w' := by
  have H := Lib.hid h
  have HL := Lib.hid h.hlen
  have hm := h.hmax
  have hle := h.hle
  obtain ⟨V, hV⟩ : ∃ V, riseH none L = V := ⟨_, rfl⟩
  rw [hV]
  have HV := Lib.hid hV
  clear h hV
  go_enter Try.func141, Try.ntmps141
  go_wp2_with fail
  go_loopw [5] (fun i wr => ∃ k : Nat, i = .int .i64 ((k : Int) + 1) ∧ (k + 1 ≤ n ∨ n = 0 ∧ k = 0) ∧ Hid (riseH none (L.take (k + 1)) = true) ∧ Hid (Below w.heap.size w wr)) (fun i _ => n - (intOf i).toNat)
  case atStart =>
    refine ⟨0, rfl, by omega, Lib.hid ?_, Lib.hid (Below.refl _ _)⟩
    cases L with
    | nil => rfl
    | cons s L => simp [riseH, behH]
  case round =>
    obtain ⟨k, rfl, hk, P, B⟩ := hrel
    by_cases hlt : k + 1 < n
    · obtain ⟨b, off, y, rfl, hy, hcy, -⟩ := H.out.at hdOk B.out (k + 1) hlt
      obtain ⟨b2, o2, x, hab, hx, hcx, -⟩ := H.out.at hdOk B.out k (by omega)
      obtain ⟨rfl, rfl⟩ : b = b2 ∧ off = o2 := by injection hab with hab; injection hab with e1 e2; exact ⟨e1, e2⟩
      have hnx := riseH_next L k x y hx hy
      rw [P.out, Bool.true_and] at hnx
      have HK := Lib.hid (fun w => pbyid x y w)
      obtain ⟨x1, x2, x3, x4, x5, xs⟩ := x
      obtain ⟨y1, y2, y3, y4, y5, ys⟩ := y
      dsimp only at hnx HK
      have XC := Lib.hid hcx
      have YC := Lib.hid hcy
      have g1 : (0 : Int) ≤ (k : Int) := by omega
      have g2 : (k : Int) < (n : Int) := by omega
      have g3 : (0 : Int) ≤ (k : Int) + 1 := by omega
      have g4 : (k : Int) + 1 < (n : Int) := by omega
      have hwr : IntKind.i64.wrap (k : Int) = (k : Int) := by rw [IntKind.wrap_i64]; omega
      have hnt : (((k : Nat) : Int) + 1).toNat = k + 1 := by omega
      clear hcx hcy hx hy hab hk
      by_cases hlt2 : x1 < y1
      · have HN := Lib.hid (show riseH none (L.take (k + 1 + 1)) = true by rw [hnx]; simp [hlt2])
        rw [cmp_lt _ _ hlt2] at HK
        clear hnx
        go_wp2_with fail
        refine region_h (fun v => Below wr.heap.size wr v) (by kernel_rfl) (by kernel_rfl) (Below.refl _ _).drew ?_
        obtain ⟨wd, hwd⟩ : ∃ wd, wr.drew = wd := ⟨_, rfl⟩
        have D0 : Hid (Below wr.heap.size wr wd) := Lib.hid (by rw [← hwd]; exact (Below.refl _ _).drew)
        rw [hwd]
        clear hwd
        (refine h_read 0 rfl (by kernel_rfl) (by kernel_rfl) (h_free rfl) ?_ ?_ ?_; rotate_left; (focus (intro v hv; go_simp; rfl)); go_simp)
        (refine h_read 1 rfl (by kernel_rfl) (by kernel_rfl) (h_free rfl) ?_ ?_ ?_; rotate_left; (focus (intro v hv; go_simp; rfl)); go_simp)
        (refine h_read 2 rfl (by kernel_rfl) (by kernel_rfl) (h_free rfl) ?_ ?_ ?_; rotate_left; (focus (intro v hv; go_simp; rfl)); go_simp)
        (refine h_read 3 rfl (by kernel_rfl) (by kernel_rfl) (h_free rfl) ?_ ?_ ?_; rotate_left; (focus (intro v hv; go_simp; rfl)); go_simp)
        (refine h_read 4 rfl (by kernel_rfl) (by kernel_rfl) (h_free rfl) ?_ ?_ ?_; rotate_left; (focus (intro v hv; go_simp; rfl)); go_simp)
        (refine h_read 5 rfl (by kernel_rfl) (by kernel_rfl) (h_free rfl) ?_ ?_ ?_; rotate_left; (focus (intro v hv; refine run_cells 52 (.tmp 16) ?_ b (off + k * 6) ?_ [.int .i64 x1, .int .i64 x2, .int .i64 x3, .int .i64 x4, .int .i64 x5, .string xs] _ (fun j' u hj => by rw [hv.cell (p := ⟨b, off + k * 6 + j', none⟩) (World.block_lt_of_cell? wr _ (XC.out j' u hj))]; exact XC.out j' u hj) Try.underlying52 rfl hd_size; (focus rfl); go_simp)); go_simp)
        (refine h_read 6 rfl (by kernel_rfl) (by kernel_rfl) (h_free rfl) ?_ ?_ ?_; rotate_left; (focus (intro v hv; go_simp; rfl)); go_simp)
        (refine h_read 7 rfl (by kernel_rfl) (by kernel_rfl) (h_free rfl) ?_ ?_ ?_; rotate_left; (focus (intro v hv; go_simp; rfl)); go_simp)
        (refine h_read 8 rfl (by kernel_rfl) (by kernel_rfl) (h_free rfl) ?_ ?_ ?_; rotate_left; (focus (intro v hv; go_simp; rfl)); go_simp)
        (refine h_read 9 rfl (by kernel_rfl) (by kernel_rfl) (h_free rfl) ?_ ?_ ?_; rotate_left; (focus (intro v hv; refine run_cells 52 (.tmp 20) ?_ b (off + (k + 1) * 6) ?_ [.int .i64 y1, .int .i64 y2, .int .i64 y3, .int .i64 y4, .int .i64 y5, .string ys] _ (fun j' u hj => by rw [hv.cell (p := ⟨b, off + (k + 1) * 6 + j', none⟩) (World.block_lt_of_cell? wr _ (YC.out j' u hj))]; exact YC.out j' u hj) Try.underlying52 rfl hd_size; (focus rfl); go_simp)); go_simp)
        (refine h_call 10 rfl (by kernel_rfl) (h_free rfl) 142 ?_ ?_ ?_; rotate_left; (focus (go_simp; rfl)))
        refine (HK.out wd).mono ?_
        rintro x w5 ⟨rfl, hb5⟩
        have J5 := Lib.hid (D0.out.trans (hb5.mono D0.out.size))
        clear hb5
        refine ⟨_, rfl, J5.out, ?_⟩
        go_simp
        (refine h_read 11 rfl (by kernel_rfl) (by kernel_rfl) (h_free rfl) ?_ ?_ ?_; rotate_left; (focus (intro v hv; go_simp; rfl)); go_simp)
        refine h_done (by kernel_rfl) ?_
        go_wp2_with fail
        go_roundw
        case rel => exact ⟨k + 1, vint (by omega), by omega, HN, Lib.hid (B.out.trans (J5.out.mono B.out.size))⟩
        case measure => simp [intOf]; omega
      · have HF := Lib.hid (show V = false by
          rw [← HV.out]
          cases hc : riseH none L with
          | false => rfl
          | true =>
            have h1 := riseH_take L none (k + 1 + 1) hc
            rw [hnx] at h1
            simp [hlt2] at h1)
        have hcp := cmp_ge x1 y1 hlt2
        obtain ⟨cv, hcv⟩ : ∃ z, cmpI x1 y1 = z := ⟨_, rfl⟩
        rw [hcv] at HK hcp
        clear hnx hcv
        go_wp2_with fail
        refine region_h (fun v => Below wr.heap.size wr v) (by kernel_rfl) (by kernel_rfl) (Below.refl _ _).drew ?_
        obtain ⟨wd, hwd⟩ : ∃ wd, wr.drew = wd := ⟨_, rfl⟩
        have D0 : Hid (Below wr.heap.size wr wd) := Lib.hid (by rw [← hwd]; exact (Below.refl _ _).drew)
        rw [hwd]
        clear hwd
        (refine h_read 0 rfl (by kernel_rfl) (by kernel_rfl) (h_free rfl) ?_ ?_ ?_; rotate_left; (focus (intro v hv; go_simp; rfl)); go_simp)
        (refine h_read 1 rfl (by kernel_rfl) (by kernel_rfl) (h_free rfl) ?_ ?_ ?_; rotate_left; (focus (intro v hv; go_simp; rfl)); go_simp)
        (refine h_read 2 rfl (by kernel_rfl) (by kernel_rfl) (h_free rfl) ?_ ?_ ?_; rotate_left; (focus (intro v hv; go_simp; rfl)); go_simp)
        (refine h_read 3 rfl (by kernel_rfl) (by kernel_rfl) (h_free rfl) ?_ ?_ ?_; rotate_left; (focus (intro v hv; go_simp; rfl)); go_simp)
        (refine h_read 4 rfl (by kernel_rfl) (by kernel_rfl) (h_free rfl) ?_ ?_ ?_; rotate_left; (focus (intro v hv; go_simp; rfl)); go_simp)
        (refine h_read 5 rfl (by kernel_rfl) (by kernel_rfl) (h_free rfl) ?_ ?_ ?_; rotate_left; (focus (intro v hv; refine run_cells 52 (.tmp 16) ?_ b (off + k * 6) ?_ [.int .i64 x1, .int .i64 x2, .int .i64 x3, .int .i64 x4, .int .i64 x5, .string xs] _ (fun j' u hj => by rw [hv.cell (p := ⟨b, off + k * 6 + j', none⟩) (World.block_lt_of_cell? wr _ (XC.out j' u hj))]; exact XC.out j' u hj) Try.underlying52 rfl hd_size; (focus rfl); go_simp)); go_simp)
        (refine h_read 6 rfl (by kernel_rfl) (by kernel_rfl) (h_free rfl) ?_ ?_ ?_; rotate_left; (focus (intro v hv; go_simp; rfl)); go_simp)
        (refine h_read 7 rfl (by kernel_rfl) (by kernel_rfl) (h_free rfl) ?_ ?_ ?_; rotate_left; (focus (intro v hv; go_simp; rfl)); go_simp)
        (refine h_read 8 rfl (by kernel_rfl) (by kernel_rfl) (h_free rfl) ?_ ?_ ?_; rotate_left; (focus (intro v hv; go_simp; rfl)); go_simp)
        (refine h_read 9 rfl (by kernel_rfl) (by kernel_rfl) (h_free rfl) ?_ ?_ ?_; rotate_left; (focus (intro v hv; refine run_cells 52 (.tmp 20) ?_ b (off + (k + 1) * 6) ?_ [.int .i64 y1, .int .i64 y2, .int .i64 y3, .int .i64 y4, .int .i64 y5, .string ys] _ (fun j' u hj => by rw [hv.cell (p := ⟨b, off + (k + 1) * 6 + j', none⟩) (World.block_lt_of_cell? wr _ (YC.out j' u hj))]; exact YC.out j' u hj) Try.underlying52 rfl hd_size; (focus rfl); go_simp)); go_simp)
        (refine h_call 10 rfl (by kernel_rfl) (h_free rfl) 142 ?_ ?_ ?_; rotate_left; (focus (go_simp; rfl)))
        refine (HK.out wd).mono ?_
        rintro x w5 ⟨rfl, hb5⟩
        have J5 := Lib.hid (D0.out.trans (hb5.mono D0.out.size))
        clear hb5
        refine ⟨_, rfl, J5.out, ?_⟩
        go_simp
        (refine h_read 11 rfl (by kernel_rfl) (by kernel_rfl) (h_free rfl) ?_ ?_ ?_; rotate_left; (focus (intro v hv; go_simp; rfl)); go_simp)
        refine h_done (by kernel_rfl) ?_
        go_wp2_with fail
        go_ret
        exact ⟨one (vbool (by rw [HF.out])), B.out.trans (J5.out.mono B.out.size)⟩
    · have HT := Lib.hid (show V = true by
        rw [← HV.out, ← P.out, List.take_of_length_le (by rw [HL.out]; omega)])
      have g5 : ¬ ((k : Int) + 1 < (n : Int)) := by omega
      go_wp2_with fail
      go_ret
      exact ⟨one (vbool (by rw [HT.out])), B.out⟩
end Go.Proofs.Ytiopcojkdglapaa.W

namespace Go.Proofs.Ytiopcojkdglapaa.W
open Go Go.ChangeShapes Go.WideShapes Go.ChangeAt Go.RowKit
open Go.Proofs.Ytiopcojkdglapaa.P (enc dec)
open Go.Proofs.Ytiopcojkdglapaa.S

def allH (n : Int) (L : List Hd) : Bool := L.all (fun s => s.ok && decide (s.id < n))
theorem allH_next (n : Int) (L : List Hd) (k : Nat) (s : Hd) (hs : L[k]? = some s) : allH n (L.take (k + 1)) = (allH n (L.take k) && (s.ok && decide (s.id < n))) := by
  have hk : k < L.length := (List.getElem?_eq_some_iff.1 hs).1
  rw [List.take_succ_eq_append_getElem hk]
  rw [List.getElem?_eq_getElem hk] at hs
  rw [Option.some.inj hs]
  simp [allH]
theorem allH_take (n : Int) (L : List Hd) (k : Nat) (h : allH n L = true) : allH n (L.take k) = true := by
  unfold allH at h ⊢
  rw [List.all_eq_true] at h ⊢
  exact fun s hs => h s (List.mem_of_mem_take hs)
theorem sumH_lim (n : Int) (L : List Hd) (h : allH n L = true) : 0 ≤ sumH L ∧ sumH L ≤ (L.length : Int) * 1099511627776 := by
  unfold allH at h
  rw [List.all_eq_true] at h
  induction L with
  | nil => simp [sumH]
  | cons s L ih =>
    have h1 := h s (by simp)
    simp only [Bool.and_eq_true] at h1
    have h1 := (ok_hd.1 h1.1).by'
    have h2 := ih (fun x hx => h x (by simp [hx]))
    rw [sumH_cons]
    simp only [List.length_cons]
    omega
/-- what holdsFit tells -/
def Ld.hf (l : Ld) : Bool := decide (l.L.length ≤ 8) && (chkH l.n none l.L && decide (sumH l.L = l.h))
set_option maxRecDepth 100000 in
set_option maxHeartbeats 16000000 in
theorem pholdsfit (q u h' nx : Int) (a : Option Addr) (n c : Nat) (L : List Hd) (w : World) (h : Ls hdE w a n c L) :
    Calls Try.prog 92 #[.agg (ldC q u h' nx a n c).toArray] w fun x w' => x = .returned (.bool (Ld.hf ⟨q, u, h', nx, L⟩)) ∧ Below w.heap.size w w' := by
  have H := Lib.hid h
  have HL := Lib.hid h.hlen
  have hm := h.hmax
  have hle := h.hle
  have SZ := Lib.hid hd_size
  have MZ := Lib.hid hd_zero
  obtain ⟨V, hV⟩ : ∃ V, Ld.hf ⟨q, u, h', nx, L⟩ = V := ⟨_, rfl⟩
  rw [hV]
  have HV := Lib.hid (show (decide (n ≤ 8) && (riseH none L && (allH nx L && decide (sumH L = h')))) = V by rw [← hV, ← h.hlen]; unfold Ld.hf; dsimp only; rw [chk_split]; unfold allH; simp only [Bool.and_assoc])
  have HRI := Lib.hid (fun w' (hb : Below w.heap.size w w') => prise a n c L w' (h.mono hdOk hb))
  clear h hV
  by_cases h8 : n ≤ 8
  case neg =>
    have HF := Lib.hid (show V = false by rw [← HV.out]; simp [h8])
    have g8 : (8 : Int) < (n : Int) := by omega
    clear HV
    go_enter Try.func92, Try.ntmps92
    go_wp2_with (first
      | ((with_reducible refine box_row (o := ⟨some 1, _, _, _, _, _⟩) rfl _ _ rfl (ldC q u h' nx a n c) rfl ?_); intro w0 hr hb hz; obtain ⟨c0, c1, c2, c3, c4⟩ := hr.l5; have B0 := Lib.hid hb; clear hr hb hz))
    go_ret
    exact ⟨one (vbool (by rw [HF.out])), B0.out⟩
  have g8 : ¬ (8 : Int) < (n : Int) := by omega
  have HV := Lib.hid (show (riseH none L && (allH nx L && decide (sumH L = h'))) = V by rw [← HV.out]; simp [h8])
  obtain ⟨rv, hrv⟩ : ∃ v, riseH none L = v := ⟨_, rfl⟩
  have HV := Lib.hid (show (rv && (allH nx L && decide (sumH L = h'))) = V by rw [← hrv]; exact HV.out)
  rw [hrv] at HRI
  clear hrv
  go_enter Try.func92, Try.ntmps92
  cases rv
  · have HF := Lib.hid (show V = false by rw [← HV.out]; rfl)
    go_wp2_with (first
      | ((with_reducible refine box_row (o := ⟨some 1, _, _, _, _, _⟩) rfl _ _ rfl (ldC q u h' nx a n c) rfl ?_); intro w0 hr hb hz; have R0 := Lib.hid hr; obtain ⟨c0, c1, c2, c3, c4⟩ := hr.l5; have B0 := Lib.hid hb; clear hr hb hz)
      | (go_at_call 141; (with_reducible refine (HRI.out _ B0.out).mono ?_); rintro x w1 ⟨rfl, hb⟩; have B1 := Lib.hid (B0.out.trans (hb.mono B0.out.size)); clear hb))
    go_ret
    exact ⟨one (vbool (by rw [HF.out])), B1.out⟩
  have HV := Lib.hid (show (allH nx L && decide (sumH L = h')) = V by rw [← HV.out]; rfl)
  go_wp2_with (first
    | ((with_reducible refine box_row (o := ⟨some 1, _, _, _, _, _⟩) rfl _ _ rfl (ldC q u h' nx a n c) rfl ?_); intro w0 hr hb hz; have R0 := Lib.hid hr; obtain ⟨c0, c1, c2, c3, c4⟩ := hr.l5; have B0 := Lib.hid hb; clear hr hb hz)
    | (go_at_call 141; (with_reducible refine (HRI.out _ B0.out).mono ?_); rintro x w1 ⟨rfl, hb⟩; have R1 := Lib.hid (R0.out.below hb R0.out.lt); have B1 := Lib.hid (B0.out.trans (hb.mono B0.out.size)); clear hb c0 c1 c2 c3 c4; obtain ⟨c0, c1, c2, c3, c4⟩ := R1.out.l5))
  clear c0 c1 c2 c3 c4
  go_loopw [3, 19] (fun s i wr => ∃ k : Nat, i = .int .i64 (k : Int) ∧ k ≤ n ∧ s = .int .i64 (sumH (L.take k)) ∧ Hid (allH nx (L.take k) = true) ∧ Hid (Below w.heap.size w wr) ∧ Hid (Row wr w.heap.size 50 (ldC q u h' nx a n c))) (fun _ i _ => n - (intOf i).toNat)
  case atStart => exact ⟨0, rfl, Nat.zero_le _, rfl, Lib.hid rfl, B1, R1⟩
  case round =>
    obtain ⟨k, rfl, hk, rfl, P, B, RL⟩ := hrel
    have hsm := sumH_lim nx _ P.out
    have htl : (L.take k).length ≤ 8 := by rw [List.length_take, HL.out]; omega
    obtain ⟨sm, hs⟩ : ∃ s, sumH (L.take k) = s := ⟨_, rfl⟩
    rw [hs] at hsm ⊢
    have hsb : 0 ≤ sm ∧ sm ≤ 8 * 1099511627776 := ⟨hsm.1, by have := hsm.2; have : ((L.take k).length : Int) ≤ 8 := (by omega); omega⟩
    have HSM := Lib.hid hs
    clear hs hsm htl
    by_cases hlt : k < n
    · obtain ⟨b, off, x, rfl, hx, hcell, hfx⟩ := H.out.at hdOk B.out k hlt
      have HONE := Lib.hid (fun w => pholdfits x w hfx)
      obtain ⟨i1, i2, i3, i4, i5, sp⟩ := x
      have XC := Lib.hid hcell
      have hnx := allH_next nx L k _ hx
      rw [P.out, Bool.true_and] at hnx
      have HS := Lib.hid (show sumH (L.take (k + 1)) = sm + i3 by rw [sumH_next L k _ hx, HSM.out])
      have hbad : allH nx (L.take (k + 1)) = false → V = false := fun h => by
        rw [← HV.out]
        cases hc : allH nx L
        · rfl
        · rw [allH_take nx L (k + 1) hc] at h; cases h
      obtain ⟨ok, hok⟩ : ∃ b, Hd.ok ⟨i1, i2, i3, i4, i5, sp⟩ = b := ⟨_, rfl⟩
      rw [hok] at hnx
      have HOK := Lib.hid hok
      have g1 : (0 : Int) ≤ (k : Int) := by omega
      have g2 : (k : Int) < (n : Int) := by omega
      clear hx hcell hfx
      rcases ok with _ | _
      · have HF := Lib.hid (hbad (by rw [hnx]; rfl))
        clear hnx hbad hok
        go_wp2_with (first
          | ((with_reducible refine load_cells (o := ⟨some 22, _, _, _, _, _⟩) rfl _ _ rfl b (off + k * 6) ?_ [.int .i64 i1, .int .i64 i2, .int .i64 i3, .int .i64 i4, .int .i64 i5, .string sp] _ XC.out Try.underlying52 rfl ?_ ?_); (focus go_simp); (focus (exact SZ.out)))
          | ((with_reducible refine alloc_row (o := ⟨some 5, _, _, _, _, _⟩) rfl _ rfl _ MZ.out ?_); intro w5 hr hb hz; have R5 := Lib.hid hr; have RL5 := Lib.hid (RL.out.below hb RL.out.lt); have B5 := Lib.hid (B.out.trans (hb.mono B.out.size)); clear hr hb hz)
          | ((with_reducible refine store_row (o := ⟨none, _, _, _, _, _⟩) rfl _ (.tmp 5) _ rfl wr.heap.size [.int .i64 i1, .int .i64 i2, .int .i64 i3, .int .i64 i4, .int .i64 i5, .string sp] ?_ ?_ 52 _ R5.out ?_ ?_ ?_ ?_); (focus go_simp); (focus (first | (go_simp; done) | (go_simp; rfl))); (focus (exact SZ.out)); (focus rfl); (focus (exact hd_one ⟨i1, i2, i3, i4, i5, sp⟩)); intro w6 hr2 hu2; have R6 := Lib.hid hr2; have RL6 := Lib.hid (RL5.out.upd hu2 (Nat.ne_of_lt RL.out.lt)); have B6 := Lib.hid (B5.out.trans (hu2.below B.out.size)); clear hr2 hu2)
          | ((with_reducible refine load_row (o := ⟨some 23, _, _, _, _, _⟩) rfl _ _ rfl wr.heap.size ?_ _ [.int .i64 i1, .int .i64 i2, .int .i64 i3, .int .i64 i4, .int .i64 i5, .string sp] _ R6.out Try.underlying52 rfl ?_ ?_); (focus go_simp); (focus (exact SZ.out)))
          | (go_at_call 143; (with_reducible refine (HONE.out w6).mono ?_); rw [HOK.out]; rintro x w7 ⟨rfl, hb⟩; have R7 := Lib.hid (R6.out.below hb R6.out.lt); have RL7 := Lib.hid (RL6.out.below hb RL6.out.lt); have B7 := Lib.hid (B6.out.trans (hb.mono B6.out.size)); obtain ⟨c0, c1, c2, c3, c4⟩ := RL7.out.l5; obtain ⟨d0, d1, d2, d3, d4, d5⟩ := R7.out.h6; clear hb))
        go_ret
        exact ⟨one (vbool (by rw [HF.out])), B7.out⟩
      · have hiok := (ok_hd.1 hok).by'
        have hib : 0 ≤ i3 ∧ i3 ≤ 1099511627776 := hiok
        clear hok hiok
        by_cases hid : i1 < nx
        · have HN := Lib.hid (show allH nx (L.take (k + 1)) = true by rw [hnx]; simp [hid])
          have gid : ¬ (nx ≤ i1) := by omega
          clear hnx hbad
          go_wp2_with (first
            | ((with_reducible refine load_cells (o := ⟨some 22, _, _, _, _, _⟩) rfl _ _ rfl b (off + k * 6) ?_ [.int .i64 i1, .int .i64 i2, .int .i64 i3, .int .i64 i4, .int .i64 i5, .string sp] _ XC.out Try.underlying52 rfl ?_ ?_); (focus go_simp); (focus (exact SZ.out)))
            | ((with_reducible refine alloc_row (o := ⟨some 5, _, _, _, _, _⟩) rfl _ rfl _ MZ.out ?_); intro w5 hr hb hz; have R5 := Lib.hid hr; have RL5 := Lib.hid (RL.out.below hb RL.out.lt); have B5 := Lib.hid (B.out.trans (hb.mono B.out.size)); clear hr hb hz)
            | ((with_reducible refine store_row (o := ⟨none, _, _, _, _, _⟩) rfl _ (.tmp 5) _ rfl wr.heap.size [.int .i64 i1, .int .i64 i2, .int .i64 i3, .int .i64 i4, .int .i64 i5, .string sp] ?_ ?_ 52 _ R5.out ?_ ?_ ?_ ?_); (focus go_simp); (focus (first | (go_simp; done) | (go_simp; rfl))); (focus (exact SZ.out)); (focus rfl); (focus (exact hd_one ⟨i1, i2, i3, i4, i5, sp⟩)); intro w6 hr2 hu2; have R6 := Lib.hid hr2; have RL6 := Lib.hid (RL5.out.upd hu2 (Nat.ne_of_lt RL.out.lt)); have B6 := Lib.hid (B5.out.trans (hu2.below B.out.size)); clear hr2 hu2)
            | ((with_reducible refine load_row (o := ⟨some 23, _, _, _, _, _⟩) rfl _ _ rfl wr.heap.size ?_ _ [.int .i64 i1, .int .i64 i2, .int .i64 i3, .int .i64 i4, .int .i64 i5, .string sp] _ R6.out Try.underlying52 rfl ?_ ?_); (focus go_simp); (focus (exact SZ.out)))
            | (go_at_call 143; (with_reducible refine (HONE.out w6).mono ?_); rw [HOK.out]; rintro x w7 ⟨rfl, hb⟩; have R7 := Lib.hid (R6.out.below hb R6.out.lt); have RL7 := Lib.hid (RL6.out.below hb RL6.out.lt); have B7 := Lib.hid (B6.out.trans (hb.mono B6.out.size)); obtain ⟨c0, c1, c2, c3, c4⟩ := RL7.out.l5; obtain ⟨d0, d1, d2, d3, d4, d5⟩ := R7.out.h6; clear hb))
          go_roundw
          case rel => exact ⟨k + 1, vint (by omega), by omega, by rw [HS.out], HN, B7, RL7⟩
          case measure => simp [intOf]; omega
        · have HF := Lib.hid (hbad (by rw [hnx]; simp [hid]))
          have gid : nx ≤ i1 := by omega
          clear hnx hbad
          go_wp2_with (first
            | ((with_reducible refine load_cells (o := ⟨some 22, _, _, _, _, _⟩) rfl _ _ rfl b (off + k * 6) ?_ [.int .i64 i1, .int .i64 i2, .int .i64 i3, .int .i64 i4, .int .i64 i5, .string sp] _ XC.out Try.underlying52 rfl ?_ ?_); (focus go_simp); (focus (exact SZ.out)))
            | ((with_reducible refine alloc_row (o := ⟨some 5, _, _, _, _, _⟩) rfl _ rfl _ MZ.out ?_); intro w5 hr hb hz; have R5 := Lib.hid hr; have RL5 := Lib.hid (RL.out.below hb RL.out.lt); have B5 := Lib.hid (B.out.trans (hb.mono B.out.size)); clear hr hb hz)
            | ((with_reducible refine store_row (o := ⟨none, _, _, _, _, _⟩) rfl _ (.tmp 5) _ rfl wr.heap.size [.int .i64 i1, .int .i64 i2, .int .i64 i3, .int .i64 i4, .int .i64 i5, .string sp] ?_ ?_ 52 _ R5.out ?_ ?_ ?_ ?_); (focus go_simp); (focus (first | (go_simp; done) | (go_simp; rfl))); (focus (exact SZ.out)); (focus rfl); (focus (exact hd_one ⟨i1, i2, i3, i4, i5, sp⟩)); intro w6 hr2 hu2; have R6 := Lib.hid hr2; have RL6 := Lib.hid (RL5.out.upd hu2 (Nat.ne_of_lt RL.out.lt)); have B6 := Lib.hid (B5.out.trans (hu2.below B.out.size)); clear hr2 hu2)
            | ((with_reducible refine load_row (o := ⟨some 23, _, _, _, _, _⟩) rfl _ _ rfl wr.heap.size ?_ _ [.int .i64 i1, .int .i64 i2, .int .i64 i3, .int .i64 i4, .int .i64 i5, .string sp] _ R6.out Try.underlying52 rfl ?_ ?_); (focus go_simp); (focus (exact SZ.out)))
            | (go_at_call 143; (with_reducible refine (HONE.out w6).mono ?_); rw [HOK.out]; rintro x w7 ⟨rfl, hb⟩; have R7 := Lib.hid (R6.out.below hb R6.out.lt); have RL7 := Lib.hid (RL6.out.below hb RL6.out.lt); have B7 := Lib.hid (B6.out.trans (hb.mono B6.out.size)); obtain ⟨c0, c1, c2, c3, c4⟩ := RL7.out.l5; obtain ⟨d0, d1, d2, d3, d4, d5⟩ := R7.out.h6; clear hb))
          go_ret
          exact ⟨one (vbool (by rw [HF.out])), B7.out⟩
    · obtain rfl : n = k := by omega
      have ht : L.take n = L := List.take_of_length_le (by rw [HL.out]; exact Nat.le_refl _)
      have HX := Lib.hid (show V = decide (sm = h') by rw [← HV.out, ← HSM.out]; rw [ht] at P ⊢; rw [P.out, Bool.true_and])
      obtain ⟨c0, c1, c2, c3, c4⟩ := RL.out.l5
      clear ht
      by_cases he : sm = h'
      · subst he
        go_wp2_with fail
        go_ret
        exact ⟨one (vbool (by rw [HX.out]; simp)), B.out⟩
      · go_wp2_with fail
        go_ret
        exact ⟨one (vbool (by rw [HX.out]; simp [he])), B.out⟩
theorem bs4 : ∀ b0 b1 b2 b3 : Bool, ((b0 = false) ∨ (b0 = true ∧ b1 = false) ∨ (b0 = true ∧ b1 = true ∧ b2 = false)) ∨ (b0 = true ∧ b1 = true ∧ b2 = true) := by
  intro b0 b1 b2 b3
  cases b0 <;> cases b1 <;> cases b2 <;> simp
set_option maxRecDepth 100000 in
set_option maxHeartbeats 16000000 in
theorem pcheck : LdCheckP 41 := by
  intro v l w h
  obtain ⟨⟨a, n, c, rfl, h⟩, hq, hu, hh, hn⟩ := h
  obtain ⟨q, u, h', nx, L⟩ := l
  dsimp only at h hq hu hh hn ⊢
  have LZ := Lib.hid ld_size
  have HHF := Lib.hid (fun w' (hb : Below w.heap.size w w') => pholdsfit q u h' nx a n c L w' (h.mono hdOk hb))
  obtain ⟨V, hV⟩ : ∃ V, Ld.ok ⟨q, u, h', nx, L⟩ = V := ⟨_, rfl⟩
  rw [hV]
  obtain ⟨b0, h0⟩ : ∃ b, allIn 1099511627776 [q, u, h'] = b := ⟨_, rfl⟩
  obtain ⟨b1, h1⟩ : ∃ b, in64 nx 1 2147483648 = b := ⟨_, rfl⟩
  obtain ⟨b2, h2⟩ : ∃ b, Ld.hf ⟨q, u, h', nx, L⟩ = b := ⟨_, rfl⟩
  have HV := Lib.hid (show (b0 && (b1 && (b2 && decide (u + h' ≤ q)))) = V by rw [← hV, ← h0, ← h1, ← h2, allIn3]; unfold Ld.ok Ld.hf T40 T31; dsimp only; simp only [Bool.and_assoc])
  have hb0 : b0 = true → T40s [u, h'] := fun e => by
    rw [e, allIn3] at h0
    simp only [Bool.and_eq_true, in64_iff] at h0
    intro x hx
    simp at hx
    rcases hx with rfl | rfl
    · exact h0.2.1
    · exact h0.2.2
  rw [h2] at HHF
  have H0 := Lib.hid h0
  have H1 := Lib.hid h1
  have HQ := Lib.hid hq
  have HU := Lib.hid hu
  have HH := Lib.hid hh
  clear h hV h0 h1 h2 hq hu hh hn
  rcases bs4 b0 b1 b2 true with (rfl | ⟨rfl, rfl⟩ | ⟨rfl, rfl, rfl⟩) | ⟨rfl, rfl, rfl⟩
  · clear hb0
    have HF := Lib.hid (show V = false by rw [← HV.out]; simp)
    clear HV
    go_enter Try.func41, Try.ntmps41
    go_wp2_with (first
      | ((with_reducible refine box_row (o := ⟨some 1, _, _, _, _, _⟩) rfl _ _ rfl (ldC q u h' nx a n c) rfl ?_); intro w0 hr hb hz; have RZ := Lib.hid hr; obtain ⟨c0, c1, c2, c3, c4⟩ := hr.l5; have BZ := Lib.hid hb; clear hr hb hz)
      | ((with_reducible refine bi3 (o := ⟨some 9, _, _, _, _, _⟩) rfl _ _ _ rfl q u h' ?_ ?_ ?_ HQ.out HU.out HH.out ?_); (focus (first | (go_simp; done) | (go_simp; rfl))); (focus (first | (go_simp; done) | (go_simp; rfl))); (focus (first | (go_simp; done) | (go_simp; rfl))); intro wb hs hb hz; have SA := Lib.hid hs; have RY := RZ; have BY := BZ; clear RZ BZ; have RZ := Lib.hid (RY.out.below hb RY.out.lt); have BZ := Lib.hid (BY.out.trans (hb.mono BY.out.size)); clear RY BY c0 c1 c2 c3 c4; obtain ⟨c0, c1, c2, c3, c4⟩ := RZ.out.l5; clear hs hb hz)
      | (go_at_call 90; with_reducible refine (lwithin 1099511627776 _ 3 3 [q, u, h'] _ SA.out).mono ?_; rw [H0.out]; rintro x w' ⟨rfl, rfl⟩)
      | (go_at_call 91; with_reducible refine (pin nx 1 2147483648 _ H1.out _).mono ?_; rintro x w' ⟨rfl, rfl⟩)
      | ((with_reducible refine load_rowg (o := ⟨some 17, _, _, _, _, _⟩) 13 true 16 rfl _ _ rfl w.heap.size _ (ldC q u h' nx a n c) _ RZ.out Try.underlying50 rfl ?_ ?_ ?_ ?_ ?_); (focus rfl); (focus (first | (go_simp; done) | (go_simp; rfl))); (focus (first | (go_simp; done) | (go_simp; rfl))); (focus (exact LZ.out)))
      | (go_at_call 92; (with_reducible refine (HHF.out _ BZ.out).mono ?_); rintro x w7 ⟨rfl, hb⟩; have RY := RZ; have BY := BZ; clear RZ BZ; have RZ := Lib.hid (RY.out.below hb RY.out.lt); have BZ := Lib.hid (BY.out.trans (hb.mono BY.out.size)); clear RY BY c0 c1 c2 c3 c4; obtain ⟨c0, c1, c2, c3, c4⟩ := RZ.out.l5; clear hb))
    go_ret
    exact ⟨one (vbool (by rw [HF.out])), BZ.out⟩
  · clear hb0
    have HF := Lib.hid (show V = false by rw [← HV.out]; simp)
    clear HV
    go_enter Try.func41, Try.ntmps41
    go_wp2_with (first
      | ((with_reducible refine box_row (o := ⟨some 1, _, _, _, _, _⟩) rfl _ _ rfl (ldC q u h' nx a n c) rfl ?_); intro w0 hr hb hz; have RZ := Lib.hid hr; obtain ⟨c0, c1, c2, c3, c4⟩ := hr.l5; have BZ := Lib.hid hb; clear hr hb hz)
      | ((with_reducible refine bi3 (o := ⟨some 9, _, _, _, _, _⟩) rfl _ _ _ rfl q u h' ?_ ?_ ?_ HQ.out HU.out HH.out ?_); (focus (first | (go_simp; done) | (go_simp; rfl))); (focus (first | (go_simp; done) | (go_simp; rfl))); (focus (first | (go_simp; done) | (go_simp; rfl))); intro wb hs hb hz; have SA := Lib.hid hs; have RY := RZ; have BY := BZ; clear RZ BZ; have RZ := Lib.hid (RY.out.below hb RY.out.lt); have BZ := Lib.hid (BY.out.trans (hb.mono BY.out.size)); clear RY BY c0 c1 c2 c3 c4; obtain ⟨c0, c1, c2, c3, c4⟩ := RZ.out.l5; clear hs hb hz)
      | (go_at_call 90; with_reducible refine (lwithin 1099511627776 _ 3 3 [q, u, h'] _ SA.out).mono ?_; rw [H0.out]; rintro x w' ⟨rfl, rfl⟩)
      | (go_at_call 91; with_reducible refine (pin nx 1 2147483648 _ H1.out _).mono ?_; rintro x w' ⟨rfl, rfl⟩)
      | ((with_reducible refine load_rowg (o := ⟨some 17, _, _, _, _, _⟩) 13 true 16 rfl _ _ rfl w.heap.size _ (ldC q u h' nx a n c) _ RZ.out Try.underlying50 rfl ?_ ?_ ?_ ?_ ?_); (focus rfl); (focus (first | (go_simp; done) | (go_simp; rfl))); (focus (first | (go_simp; done) | (go_simp; rfl))); (focus (exact LZ.out)))
      | (go_at_call 92; (with_reducible refine (HHF.out _ BZ.out).mono ?_); rintro x w7 ⟨rfl, hb⟩; have RY := RZ; have BY := BZ; clear RZ BZ; have RZ := Lib.hid (RY.out.below hb RY.out.lt); have BZ := Lib.hid (BY.out.trans (hb.mono BY.out.size)); clear RY BY c0 c1 c2 c3 c4; obtain ⟨c0, c1, c2, c3, c4⟩ := RZ.out.l5; clear hb))
    go_ret
    exact ⟨one (vbool (by rw [HF.out])), BZ.out⟩
  · clear hb0
    have HF := Lib.hid (show V = false by rw [← HV.out]; simp)
    clear HV
    go_enter Try.func41, Try.ntmps41
    go_wp2_with (first
      | ((with_reducible refine box_row (o := ⟨some 1, _, _, _, _, _⟩) rfl _ _ rfl (ldC q u h' nx a n c) rfl ?_); intro w0 hr hb hz; have RZ := Lib.hid hr; obtain ⟨c0, c1, c2, c3, c4⟩ := hr.l5; have BZ := Lib.hid hb; clear hr hb hz)
      | ((with_reducible refine bi3 (o := ⟨some 9, _, _, _, _, _⟩) rfl _ _ _ rfl q u h' ?_ ?_ ?_ HQ.out HU.out HH.out ?_); (focus (first | (go_simp; done) | (go_simp; rfl))); (focus (first | (go_simp; done) | (go_simp; rfl))); (focus (first | (go_simp; done) | (go_simp; rfl))); intro wb hs hb hz; have SA := Lib.hid hs; have RY := RZ; have BY := BZ; clear RZ BZ; have RZ := Lib.hid (RY.out.below hb RY.out.lt); have BZ := Lib.hid (BY.out.trans (hb.mono BY.out.size)); clear RY BY c0 c1 c2 c3 c4; obtain ⟨c0, c1, c2, c3, c4⟩ := RZ.out.l5; clear hs hb hz)
      | (go_at_call 90; with_reducible refine (lwithin 1099511627776 _ 3 3 [q, u, h'] _ SA.out).mono ?_; rw [H0.out]; rintro x w' ⟨rfl, rfl⟩)
      | (go_at_call 91; with_reducible refine (pin nx 1 2147483648 _ H1.out _).mono ?_; rintro x w' ⟨rfl, rfl⟩)
      | ((with_reducible refine load_rowg (o := ⟨some 17, _, _, _, _, _⟩) 13 true 16 rfl _ _ rfl w.heap.size _ (ldC q u h' nx a n c) _ RZ.out Try.underlying50 rfl ?_ ?_ ?_ ?_ ?_); (focus rfl); (focus (first | (go_simp; done) | (go_simp; rfl))); (focus (first | (go_simp; done) | (go_simp; rfl))); (focus (exact LZ.out)))
      | (go_at_call 92; (with_reducible refine (HHF.out _ BZ.out).mono ?_); rintro x w7 ⟨rfl, hb⟩; have RY := RZ; have BY := BZ; clear RZ BZ; have RZ := Lib.hid (RY.out.below hb RY.out.lt); have BZ := Lib.hid (BY.out.trans (hb.mono BY.out.size)); clear RY BY c0 c1 c2 c3 c4; obtain ⟨c0, c1, c2, c3, c4⟩ := RZ.out.l5; clear hb))
    go_ret
    exact ⟨one (vbool (by rw [HF.out])), BZ.out⟩
  · have HT := Lib.hid (hb0 rfl)
    clear hb0
    have HFS := Lib.hid (show decide ([u, h'].sum ≤ q) = V by rw [← HV.out]; simp)
    go_enter Try.func41, Try.ntmps41
    go_wp2_with (first
      | ((with_reducible refine box_row (o := ⟨some 1, _, _, _, _, _⟩) rfl _ _ rfl (ldC q u h' nx a n c) rfl ?_); intro w0 hr hb hz; have RZ := Lib.hid hr; obtain ⟨c0, c1, c2, c3, c4⟩ := hr.l5; have BZ := Lib.hid hb; clear hr hb hz)
      | ((with_reducible refine bi3 (o := ⟨some 9, _, _, _, _, _⟩) rfl _ _ _ rfl q u h' ?_ ?_ ?_ HQ.out HU.out HH.out ?_); (focus (first | (go_simp; done) | (go_simp; rfl))); (focus (first | (go_simp; done) | (go_simp; rfl))); (focus (first | (go_simp; done) | (go_simp; rfl))); intro wb hs hb hz; have SA := Lib.hid hs; have RY := RZ; have BY := BZ; clear RZ BZ; have RZ := Lib.hid (RY.out.below hb RY.out.lt); have BZ := Lib.hid (BY.out.trans (hb.mono BY.out.size)); clear RY BY c0 c1 c2 c3 c4; obtain ⟨c0, c1, c2, c3, c4⟩ := RZ.out.l5; clear hs hb hz)
      | (go_at_call 90; with_reducible refine (lwithin 1099511627776 _ 3 3 [q, u, h'] _ SA.out).mono ?_; rw [H0.out]; rintro x w' ⟨rfl, rfl⟩)
      | (go_at_call 91; with_reducible refine (pin nx 1 2147483648 _ H1.out _).mono ?_; rintro x w' ⟨rfl, rfl⟩)
      | ((with_reducible refine load_rowg (o := ⟨some 17, _, _, _, _, _⟩) 13 true 16 rfl _ _ rfl w.heap.size _ (ldC q u h' nx a n c) _ RZ.out Try.underlying50 rfl ?_ ?_ ?_ ?_ ?_); (focus rfl); (focus (first | (go_simp; done) | (go_simp; rfl))); (focus (first | (go_simp; done) | (go_simp; rfl))); (focus (exact LZ.out)))
      | (go_at_call 92; (with_reducible refine (HHF.out _ BZ.out).mono ?_); rintro x w7 ⟨rfl, hb⟩; have RY := RZ; have BY := BZ; clear RZ BZ; have RZ := Lib.hid (RY.out.below hb RY.out.lt); have BZ := Lib.hid (BY.out.trans (hb.mono BY.out.size)); clear RY BY c0 c1 c2 c3 c4; obtain ⟨c0, c1, c2, c3, c4⟩ := RZ.out.l5; clear hb)
      | ((with_reducible refine bg2 (o := ⟨some 27, _, _, _, _, _⟩) 17 true 20 rfl _ _ rfl ?_ ?_ u h' ?_ ?_ HU.out HH.out ?_); (focus rfl); (focus (first | (go_simp; done) | (go_simp; rfl))); (focus (first | (go_simp; done) | (go_simp; rfl))); (focus (first | (go_simp; done) | (go_simp; rfl))); intro wb hs hb hz; have SB := Lib.hid hs; have RY := RZ; have BY := BZ; clear RZ BZ; have RZ := Lib.hid (RY.out.below hb RY.out.lt); have BZ := Lib.hid (BY.out.trans (hb.mono BY.out.size)); clear RY BY c0 c1 c2 c3 c4; obtain ⟨c0, c1, c2, c3, c4⟩ := RZ.out.l5; clear hs hb hz)
      | (go_at_call 93; with_reducible refine (lfit q _ 2 2 [u, h'] _ SB.out HT.out (by decide) (by decide)).mono ?_; rintro x w' ⟨rfl, rfl⟩))
    go_ret
    exact ⟨one (vbool (by rw [← HFS.out]; simp)), BZ.out⟩
end Go.Proofs.Ytiopcojkdglapaa.W
