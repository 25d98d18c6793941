/- A RANGE OVER A FUNCTION whose iterator keeps state of its own in ONE CELL (a captured variable that it writes between two rounds): the law of the statement, at the wide fence, for a body that always goes on. No number of a dump. -/
import Derived.Test.YtjkkopbhdeljmaaGreatFoot
import Derived.RangeFuncNested
import Derived.RangeFuncBound
import Derived.RangeFuncCalls
import Derived.RangeFuncLeaves
set_option linter.unusedSimpArgs false
set_option linter.unusedVariables false
namespace Go.Proofs.YtjkkopbhdeljmaaGreat.W
open Go Go.ChangeShapes Go.WideShapes Go.ChangeAt Go.RowKit

/-- what a round keeps: the iterator's own cell, and all that lay below n0 -/
structure KpC (b1 n0 : Nat) (W W' : World) : Prop where
  cell : W'.heap[b1]? = W.heap[b1]?
  bel : Below n0 W W'
theorem KpC.trans {b1 n0 : Nat} {A B C : World} (h : KpC b1 n0 A B) (k : KpC b1 n0 B C) : KpC b1 n0 A C := ⟨k.cell.trans h.cell, h.bel.trans k.bel⟩
theorem below_putObj {n0 l : Nat} {W : World} {o : Obj} (h : n0 ≤ l) : Below n0 W (W.putObj l o) := ⟨rfl, rfl, rfl, by simp, fun k hk => World.putObj_heap_other (by omega)⟩
theorem KpC.putObj {b1 n0 l : Nat} {W : World} {o : Obj} (h : b1 < l) (h0 : n0 ≤ b1) : KpC b1 n0 W (W.putObj l o) := ⟨World.putObj_heap_other (by omega), below_putObj (by omega)⟩
/-- the two blocks of book-keeping, which hold no cells, lie as they lay -/
def KeepsL (B : Nat) (W W' : World) : Prop := ∀ k o, B ≤ k → k ≤ B + 1 → W.heap[k]? = some o → o.isCells = false → W'.heap[k]? = some o

variable {P : Program} {ι α : Type}
/-- what an iterator owes: whatever the rounds keep (J), which abides new blocks and a store into the iterator's own cell -/
def IterC (P : Program) (k gf b1 n0 : Nat) (lb : Array Value) (encs : α → Array Value) (Nw : ι → α → World → World → Prop) (next : ι → α → ι) (s0 : ι) (S : ι → Prop) (w : World) : Prop :=
  ∀ (l : Nat) (J : ι → World → Prop) (W : World), Below w.heap.size w W → w.heap.size ≤ l → (∀ s A B, J s A → Below A.heap.size A B → J s B) → (∀ s A v, J s A → J s (A.setCell ⟨b1, 0, none⟩ v)) →
    (∀ s x A0 A, J s A0 → Below A0.heap.size A0 A → Nw s x A0 A → YieldAt Fence.wide (k - 1) P l (encs x) A fun e B => e = .returned (.bool true) ∧ J (next s x) B ∧ KpC b1 n0 A B) → J s0 W →
    CallsIn Fence.wide k P gf (#[.func (.yield l) #[] #[]] ++ lb) W fun e B => (∃ v, e = .returned v) ∧ ∃ s, S s ∧ J s B
theorem wpIn_rangeFunc_cell {g : Operand} {ps : Array Tmp} {assign body : Code} {Q : Exit → Act → World → Prop} {a : Act} {w : World} {gf k b1 n0 : Nat} {lb : Array Value}
    (hg : a.eval g = .func (.func gf) #[] lb) (eg : ∀ args w, (callFunc gf args).run P w = .ok (.enter gf args) w) (hb1 : b1 < w.heap.size) (hn0 : n0 ≤ b1)
    {encs : α → Array Value} {Nw : ι → α → World → World → Prop} {next : ι → α → ι} {s0 : ι} {S : ι → Prop} (hps : ∀ x, (encs x).size = ps.size)
    (hit : IterC P k gf b1 n0 lb encs Nw next s0 S w)
    (I : ι → World → Prop) (hI1 : ∀ s A B, I s A → Below A.heap.size A B → I s B) (hI2 : ∀ s A v, I s A → I s (A.setCell ⟨b1, 0, none⟩ v))
    (hI3 : ∀ s A l o, I s A → w.heap.size ≤ l → l ≤ w.heap.size + 1 → I s (A.putObj l o)) (hIn : ∀ s x A0 A l o, Nw s x A0 A → l ≤ w.heap.size + 1 → w.heap.size + 2 ≤ A0.heap.size → Nw s x A0 (A.putObj l o)) (h0 : I s0 w)
    (a₁ : α → Act)
    (hassign : ∀ (l : Nat) (x : α) (W : World) (K : Act → World → Prop), K (a₁ x) W →
      assign.wpIn (Fence.wide.inRound l) (k - 1) P (Exit.then K (fun _ _ _ => False)) { tmps := (ps.zip (encs x)).foldl (fun t (p, v) => t.setIfInBounds p v) a.tmps, defers := [] } W)
    (hbody : ∀ (l : Nat) (s : ι) (x : α) (A0 W : World), I s A0 → I s W → w.heap.size + 2 ≤ A0.heap.size → A0.heap.size ≤ W.heap.size → (∀ j, j < w.heap.size → W.heap[j]? = A0.heap[j]?) → Nw s x A0 W → body.wpIn (Fence.wide.inRound l) (k - 1) P (fun e _ W' => e = .normal ∧ I (next s x) W' ∧ KpC b1 n0 W W' ∧ KeepsL w.heap.size W W') (a₁ x) W)
    (hdone : ∀ (s : ι) (W : World), S s → I s W → W.heap[w.heap.size]? = some (.deferred (some [])) → Q .normal { a with defers := { target := .collected w.heap.size, args := #[] } :: a.defers } W) :
    (Code.rangeFunc g ps assign body).wpIn Fence.wide (k + 1) P Q a w := by
  refine wpIn_rangeFunc ?_
  intro fn _
  obtain ⟨rec, hrec⟩ : ∃ rec : LoopState → Option Code → Loop, rec = fun st pe => { state := st, pending := pe, fn, tmps := a.tmps, params := ps, assign, body, defers := w.heap.size } := ⟨_, rfl⟩
  obtain ⟨W1, hW1⟩ : ∃ W1, (w.alloc (.deferred (some []))).alloc (.loop (rec .ready none)) = W1 := ⟨_, rfl⟩
  have hbel : Below w.heap.size w W1 := by rw [← hW1]; exact ((Below.refl _ w).alloc (Nat.le_refl _) _).alloc (by simp) _
  have hL1 : W1.heap[w.heap.size + 1]? = some (.loop (rec .ready none)) := by
    rw [← hW1]; have := World.alloc_heap_new (w.alloc (.deferred (some []))) (.loop (rec .ready none)); rwa [World.size_alloc] at this
  have hK1 : W1.heap[w.heap.size]? = some (.deferred (some [])) := by
    rw [← hW1]; exact (Below.heap_alloc _ _ _ (by simp)).trans (World.alloc_heap_new w _)
  have hlt : ∀ {A : World} {o : Obj} {j : Nat}, A.heap[j]? = some o → j < A.heap.size := fun h => (Array.getElem?_eq_some_iff.1 h).1
  refine ⟨w.heap.size + 1, [{ target := .collected w.heap.size, args := #[] }], W1, { target := .fn (.func gf) lb, args := #[.func (.yield (w.heap.size + 1)) #[] #[]] }, W1, gf,
    #[.func (.yield (w.heap.size + 1)) #[] #[]] ++ lb, W1, ?_, ?_, fun _ _ => trivial, ?_, (fun h => by cases h), ?_⟩
  · rw [← hW1, hrec]; exact run_enterLoop_outer _ _ _ _ _
  · simp only [resolve, hg]
    simp [go_sem]
  · simp [invoke, go_sem, eg]
  · refine (hit (w.heap.size + 1) (fun s W => I s W ∧ W.heap[w.heap.size + 1]? = some (.loop (rec .ready none)) ∧ W.heap[w.heap.size]? = some (.deferred (some []))) W1 hbel (by omega) ?_ ?_ ?_ ⟨hI1 _ _ _ h0 hbel, hL1, hK1⟩).mono ?_
    · rintro s A B ⟨h1, h2, h3⟩ hb
      exact ⟨hI1 _ _ _ h1 hb, (hb.block _ (hlt h2)).trans h2, (hb.block _ (hlt h3)).trans h3⟩
    · rintro s A v ⟨h1, h2, h3⟩
      exact ⟨hI2 _ _ _ h1, (heap_setCell_other A ⟨b1, 0, none⟩ _ v (by simp; omega)).trans h2, (heap_setCell_other A ⟨b1, 0, none⟩ _ v (by simp; omega)).trans h3⟩
    · rintro s x A0 A ⟨j1, j2, j3⟩ hab hin
      have h1 := hI1 _ _ _ j1 hab
      have h2 := (hab.block _ (hlt j2)).trans j2
      have h3 := (hab.block _ (hlt j3)).trans j3
      have hy := run_yield (P := P) (args := encs x) h2 (by rw [hrec]; exact hps x)
      rw [hrec] at hy
      refine ⟨fn, _, assign, body, hy, roundIn_of_wpIn trivial (hassign _ x A _ ?_)⟩
      clear hy
      refine ⟨_, run_beginRound h2 (by rw [hrec]), ?_⟩
      have g2 : (A.putObj (w.heap.size + 1) (.loop { rec .ready none with state := .busy })).heap[w.heap.size + 1]? = some (.loop { rec .ready none with state := .busy }) := World.putObj_heap_same (hlt h2)
      have g3 : (A.putObj (w.heap.size + 1) (.loop { rec .ready none with state := .busy })).heap[w.heap.size]? = some (.deferred (some [])) := (World.putObj_heap_other (by omega)).trans h3
      refine wpIn_mono (hbody _ s x A0 _ j1 (hI3 _ _ _ _ h1 (by omega) (by omega)) (by have := hlt j2; omega) (by have := hab.size; simpa using this) (fun j hj => (World.putObj_heap_other (by omega)).trans (hab.block j (by have := hlt j2; omega))) (hIn _ _ _ _ _ _ hin (by omega) (by have := hlt j2; omega))) ?_
      rintro e a3 W3 ⟨rfl, hi3, hk3, hl3⟩
      have q2 := hl3 _ _ (by omega) (by omega) g2 rfl
      have q3 := hl3 _ _ (Nat.le_refl _) (by omega) g3 rfl
      have hend := run_endRound (P := P) none q2
      refine ⟨_, _, hend, rfl, ⟨hI3 _ _ _ _ hi3 (by omega) (by omega), ?_, (World.putObj_heap_other (by omega)).trans q3⟩, ((KpC.putObj (l := w.heap.size + 1) (by omega) hn0).trans hk3).trans (KpC.putObj (l := w.heap.size + 1) (by omega) hn0)⟩
      rw [hrec]
      exact World.putObj_heap_same (hlt q2)
    · rintro e W2 ⟨⟨v, rfl⟩, s, hS, h1, h2, h3⟩
      have he := run_endLoop (P := P) h2 (by rw [hrec]; simp)
      rw [show (rec .ready none).pending = none by rw [hrec]] at he
      exact ⟨none, _, he, hdone s _ hS (hI3 _ _ (w.heap.size + 1) _ h1 (by omega) (by omega)) ((World.putObj_heap_other (by omega)).trans h3)⟩
end Go.Proofs.YtjkkopbhdeljmaaGreat.W
