/- CAVEATS that a call made and owns: what append and Clone make of them. -/
import Derived.Test.YtmacjpgeamlmhaaCavS
import Derived.Great.BuildSlice
set_option linter.unusedSimpArgs false
set_option linter.unusedVariables false
namespace Go.Proofs.Ytmacjpgeamlmhaa.W
open Go.ChangeShapes Go.WideShapes Go.ChangeAt Go.RowKit

def cells (L : List Cv) : List Value := L.flatMap Cv.cells
theorem cells_len (L : List Cv) : (cells L).length = L.length * 3 := by
  induction L with
  | nil => rfl
  | cons c t ih => simp only [cells, List.flatMap_cons, List.length_append, List.length_cons] at *; rw [ih]; simp [Cv.cells]; omega
theorem cells_append (L M : List Cv) : cells (L ++ M) = cells L ++ cells M := by simp [cells]
theorem cells_at : ∀ (L : List Cv) (i j : Nat), i < L.length → j < 3 → (cells L)[i * 3 + j]? = (L.getD i default).cells[j]?
  | [], i, j, h, _ => by simp at h
  | c :: t, 0, j, _, hj => by
    simp only [cells, List.flatMap_cons]
    rw [List.getElem?_append_left (by simp [Cv.cells]; omega)]
    simp
  | c :: t, i + 1, j, h, hj => by
    have ih := cells_at t i j (by simpa using h) hj
    simp only [cells, List.flatMap_cons] at ih ⊢
    rw [List.getElem?_append_right (by simp [Cv.cells]; omega)]
    have e : (i + 1) * 3 + j - c.cells.length = i * 3 + j := by simp [Cv.cells]; omega
    rw [e, ih]
    simp
theorem cells_one (L : List Cv) : ∀ u ∈ cells L, u.oneCell' = true := by
  intro u hu
  obtain ⟨c, -, hc⟩ := List.mem_flatMap.1 hu
  simp [Cv.cells] at hc
  rcases hc with rfl | rfl | rfl <;> rfl

/-- A slice of caveats that the call made, and owns from block number base on. -/
def FrC (w : World) (base : Nat) (v : Value) (L : List Cv) : Prop := w.ownsRow base 51 3 v L.length (cells L)
theorem FrC.nil (w : World) (base : Nat) : FrC w base (.slice none 0 0) [] := World.ownsRow_nil _ _ _ _
theorem FrC.kept {w w' : World} {base : Nat} {v : Value} {L : List Cv} (h : FrC w base v L) (hb : Below w.heap.size w w') : FrC w' base v L := by
  have hlt := World.ownsRow.lt h
  obtain ⟨h1, h2⟩ := h
  refine ⟨h1, ?_⟩
  rcases h2 with h2 | ⟨g, cap, cur, rfl, hg, hh, r⟩
  · exact .inl h2
  · exact .inr ⟨g, cap, cur, rfl, hg, by rw [hb.block g (hlt g rfl).2]; exact hh, r⟩
theorem FrC.cvs {w : World} {base : Nat} {v : Value} {L : List Cv} (h : FrC w base v L) (hf : ∀ c ∈ L, c.fit) : ∃ a cap, v = .slice a L.length cap ∧ Cvs w a L.length cap L := by
  have hlt := World.ownsRow.lt h
  obtain ⟨h1, h2⟩ := h
  rcases h2 with ⟨rfl, h0⟩ | ⟨g, cap, cur, rfl, hg, hh, hn, hm, hsz, ht⟩
  · rw [h0]
    exact ⟨none, 0, rfl, h0, by omega, by omega, hf, fun _ => rfl, .inl rfl⟩
  · refine ⟨_, cap, rfl, rfl, hn, by unfold maxLen at hm; omega, hf, (fun h => by cases h), .inr ⟨g, 0, rfl, (hlt g rfl).2, fun i hi j v hj => ?_⟩⟩
    have hj3 : j < 3 := by have := (List.getElem?_eq_some_iff.1 hj).1; simpa [Cv.cells] using this
    rw [cell_of_row w g _ _ _ _ hh]
    have e := cells_at L i j hi hj3
    rw [hj, ← ht, List.getElem?_take, if_pos (by omega)] at e
    rw [Nat.zero_add]
    simpa using e

theorem infoCv : (Try.prog.info? 51).map (fun i => (i.zero, i.size, i.bytes)) = some (some (.agg #[.int .i64 0, .int .i64 0, .string ⟨#[]⟩]), 3, 32) := by kernel_rfl

/-- APPEND of caveats to what the call owns. -/
theorem append_cvs {w : World} {ops : Array Oper} {rest : List Oper} {o : Oper} {a : Act} {Q : Exit → Act → World → Prop} (hgd : o.guard = none) (s x : Operand)
    (ho : o.op = .call { callee := .builtin .append, args := #[s, x], argTypes := #[22, 22] })
    (base : Nat) (v : Value) (L : List Cv) (hs : a.eval s = v) (hown : FrC w base v L)
    (sa : Option Addr) (m c : Nat) (M : List Cv) (hx : a.eval x = .slice sa m c) (hr : Cvs w sa m c M) (hmax : L.length + m ≤ 1000000) (hbase : base ≤ w.heap.size)
    (h : ∀ v' w', FrC w' base v' (L ++ M) → Below base w w' → w.grownBy w' v.ownBlock → wpList Try.prog ops Q rest (a.put o.dst v') w') : wpList Try.prog ops Q (o :: rest) a w := by
  obtain ⟨i0, hi, hz0, hz1, hz2⟩ := info_parts infoCv
  have hlt := World.ownsRow.lt hown
  rcases sa with _ | ad
  · have hc0 : c = 0 := hr.hnil rfl
    have hm0 : m = 0 := by have := hr.hle; omega
    subst hc0 hm0
    have hn : M = [] := List.eq_nil_of_length_eq_zero hr.hlen
    subst hn
    exact wpList_append_own_none hgd s x 22 ho base 51 i0 3 Try.underlying22 hi v L.length (cells L) hs hown hx (h v w (by simpa using hown) (Below.refl _ _) (World.grownBy.refl _ _))
  · refine wpList_append_own w hgd s x 22 ho base 51 i0 _ 3 32 Try.underlying22 hi hz0 hz1 hz2 rfl (by decide) v L.length (cells L) hs hown ad m c (cells M) hx (by rw [cells_len, hr.hlen]) ?_ (cells_one M) (by unfold maxLen; omega) (by omega) hbase ?_
    · intro j u hj
      have hj' : j < M.length * 3 := by
        have := (List.getElem?_eq_some_iff.1 hj).1; rwa [cells_len] at this
      have hml := hr.hlen
      obtain ⟨b, off, e, -, hc⟩ := hr.hcells.resolve_left (by omega)
      obtain rfl : ad = ⟨b, off, none⟩ := by simpa using e
      have hq : j = j / 3 * 3 + j % 3 := by omega
      have := hc (j / 3) (by omega) (j % 3) u (by rw [← cells_at M (j / 3) (j % 3) (by omega) (by omega), ← hq]; exact hj)
      rw [Go.WideShapes.add_plain]
      rw [show off + j = off + j / 3 * 3 + j % 3 by omega]
      exact this
    · intro v' w' hown' hg _
      refine h v' w' ?_ ((Below.refl _ _).grown hg hbase (fun k hk => (hlt k hk).1)) hg
      unfold FrC; rw [List.length_append, cells_append, hr.hlen]; exact hown'
theorem FrC.empty (w : World) (base : Nat) (hb : base ≤ w.heap.size) : FrC (w.alloc (.cells #[] 51)) base (.slice (some ⟨w.heap.size, 0, none⟩) 0 0) [] :=
  ⟨rfl, .inr ⟨w.heap.size, 0, #[], rfl, hb, heap_alloc_new w _, Nat.le_refl _, Nat.zero_le _, rfl, rfl⟩⟩

set_option maxHeartbeats 1000000 in
theorem clone_cv (a : Option Addr) (len cap : Nat) (L : List Cv) (w : World) (hr : Cvs w a len cap L) (hmax : len ≤ 900000) :
    Calls Try.prog 24 #[.slice a len cap] w fun e w' => ∃ v, e = .returned v ∧ FrC w' w.heap.size v L ∧ Below w.heap.size w w' := by
  have HR := Lib.hid hr
  have hnil := fun (w : World) (a : Option Addr) (n c : Nat) => Lib.run_eql_slice_nil (P := Try.prog) w 22 51 a n c 0 0 Try.underlying22
  rcases a with _ | ad
  · have h0 := hr.hnil rfl
    have h1 := hr.hle
    have h2 := hr.hlen
    obtain rfl : len = 0 := by omega
    have : L = [] := List.eq_nil_of_length_eq_zero h2
    subst this h0
    clear hr h1 h2
    go_enter Try.func24, Try.ntmps24
    go_wp2_with fail
    go_ret
    exact ⟨_, rfl, FrC.nil _ _, Below.refl _ _⟩
  · clear hr
    go_enter Try.func24, Try.ntmps24
    go_wp2_with (at_builtin; refine append_cvs rfl _ _ rfl w.heap.size _ [] rfl (FrC.empty w _ (Nat.le_refl _)) _ _ _ L rfl (HR.out.mono ((Below.refl _ _).alloc (Nat.le_refl _) _)) (by simp; omega) (by simp) ?_; intro v2 w2 hf2 hb2 _)
    go_ret
    exact ⟨_, rfl, hf2, ((Below.refl _ _).alloc (Nat.le_refl _) _).trans hb2⟩

theorem FrC.base {w : World} {base base' : Nat} {v : Value} {L : List Cv} (h : FrC w base v L) (hb : base' ≤ base) : FrC w base' v L := by
  obtain ⟨h1, h2⟩ := h
  refine ⟨h1, ?_⟩
  rcases h2 with h2 | ⟨g, cap, cur, rfl, hg, r⟩
  · exact .inl h2
  · exact .inr ⟨g, cap, cur, rfl, by omega, r⟩
theorem cvs_new (w : World) (c : Cv) (hc : c.fit) : Cvs (w.alloc (.cells #[.int .i64 c.kind, .int .i64 c.num, .string c.name] 51)) (some ⟨w.heap.size, 0, none⟩) 1 1 [c] := by
  refine ⟨rfl, Nat.le_refl _, by omega, fun d hd => by simp at hd; rw [hd]; exact hc, (fun h => by cases h), .inr ⟨w.heap.size, 0, rfl, by simp, fun i hi j v hj => ?_⟩⟩
  obtain rfl : i = 0 := by omega
  rw [cell_of_row _ w.heap.size _ _ 51 _ (heap_alloc_new w _)]
  simpa [Cv.cells] using hj

end Go.Proofs.Ytmacjpgeamlmhaa.W
