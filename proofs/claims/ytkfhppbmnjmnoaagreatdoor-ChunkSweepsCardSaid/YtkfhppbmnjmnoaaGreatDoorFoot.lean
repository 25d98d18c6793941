/- FOOTPRINTS: a world that has grown, and of whose old blocks only those of a set were written; things that lie in a set of blocks stay where another, disjoint set is written. No number of a dump. -/
import Derived.Test.YtkfhppbmnjmnoaaGreatDoorArr
set_option linter.unusedSimpArgs false
set_option linter.unusedVariables false
namespace Go.Proofs.YtkfhppbmnjmnoaaGreatDoor.W
open Go Go.ChangeShapes Go.WideShapes Go.ChangeAt Go.RowKit

/-- w' is w, grown; of the old blocks only some of F were written -/
structure Ft (F : Nat → Prop) (w w' : World) : Prop where
  os : w'.os = w.os
  tape : w'.tape = w.tape
  output : w'.output = w.output
  size : w.heap.size ≤ w'.heap.size
  block : ∀ k, k < w.heap.size → ¬ F k → w'.heap[k]? = w.heap[k]?
/-- a set of blocks, and what it has become: new blocks alone came in -/
def Grew (w : World) (F F' : Nat → Prop) : Prop := ∀ k, F' k → F k ∨ w.heap.size ≤ k
/-- two sets have no block in common -/
def Disj (F G : Nat → Prop) : Prop := ∀ k, F k → ¬ G k

theorem Ft.refl (F : Nat → Prop) (w : World) : Ft F w w := ⟨rfl, rfl, rfl, Nat.le_refl _, fun _ _ _ => rfl⟩
theorem Ft.mono {F G : Nat → Prop} {w w' : World} (h : Ft F w w') (hg : ∀ k, F k → G k) : Ft G w w' := ⟨h.os, h.tape, h.output, h.size, fun k hk hn => h.block k hk fun hf => hn (hg k hf)⟩
theorem Ft.on {F G : Nat → Prop} {w w' w'' : World} (h : Ft F w w') (k : Ft G w' w'') (hg : ∀ b, G b → F b ∨ w.heap.size ≤ b) : Ft F w w'' :=
  ⟨k.os.trans h.os, k.tape.trans h.tape, k.output.trans h.output, Nat.le_trans h.size k.size, fun b hb hn =>
    (k.block b (Nat.lt_of_lt_of_le hb h.size) fun hgb => (hg b hgb).elim hn fun hle => absurd hb (Nat.not_lt.2 hle)).trans (h.block b hb hn)⟩
theorem Ft.trans {F : Nat → Prop} {w w' w'' : World} (h : Ft F w w') (k : Ft F w' w'') : Ft F w w'' := h.on k fun _ hb => .inl hb
theorem Ft.of_below {F : Nat → Prop} {w w' : World} (h : Below w.heap.size w w') : Ft F w w' := ⟨h.os, h.tape, h.output, h.size, fun k hk _ => h.block k hk⟩
theorem Ft.of_upd {F : Nat → Prop} {w w' : World} {g : Nat} (h : Upd w w' g) (hg : F g) : Ft F w w' := ⟨h.os, h.tape, h.output, Nat.le_of_eq h.size.symm, fun k _ hn => h.block k fun e => hn (by rw [e]; exact hg)⟩
theorem Ft.below {F : Nat → Prop} {w w' : World} {base : Nat} (h : Ft F w w') (hb : base ≤ w.heap.size) (hF : ∀ k, F k → base ≤ k) : Below base w w' :=
  ⟨h.os, h.tape, h.output, h.size, fun k hk => h.block k (Nat.lt_of_lt_of_le hk hb) fun hf => absurd hk (Nat.not_lt.2 (hF k hf))⟩
theorem Row.ft {F : Nat → Prop} {w w' : World} {g : Nat} {t : TypeId} {L : List Value} (h : Row w g t L) (k : Ft F w w') (hn : ¬ F g) : Row w' g t L := (k.block g h.lt hn).trans h
theorem Rd.ft {F : Nat → Prop} {w w' : World} {a : Option Addr} {len cap : Nat} {l : List UInt8} (h : Rd w a len cap l) (k : Ft F w w') (hn : len ≠ 0 → ∀ b off, a = some ⟨b, off, none⟩ → ¬ F b) : Rd w' a len cap l := by
  refine ⟨h.hlen, h.hle, h.hmax, h.hnil, ?_⟩
  rcases h.hcells with h0 | ⟨b, off, e, hlt, hc⟩
  · exact .inl h0
  · by_cases h0 : len = 0
    · exact .inl h0
    · exact .inr ⟨b, off, e, Nat.lt_of_lt_of_le hlt k.size, fun i hi => (World.cell?_of_block (k.block b hlt (hn h0 b off e))).trans (hc i hi)⟩
theorem Grew.refl (w : World) (F : Nat → Prop) : Grew w F F := fun _ h => .inl h
theorem Grew.trans {w w' : World} {F G H : Nat → Prop} (h : Grew w F G) (k : Grew w' G H) (hs : w.heap.size ≤ w'.heap.size) : Grew w F H := fun b hb => (k b hb).elim (h b) fun hl => .inr (Nat.le_trans hs hl)
/-- what has grown stays disjoint from what lay there -/
theorem Disj.grew {w : World} {F F' G : Nat → Prop} (h : Disj F G) (k : Grew w F F') (hG : ∀ b, G b → b < w.heap.size) : Disj F' G := fun b hb hg => (k b hb).elim (fun hf => h b hf hg) fun hl => absurd (hG b hg) (Nat.not_lt.2 hl)
theorem Disj.symm {F G : Nat → Prop} (h : Disj F G) : Disj G F := fun b hg hf => h b hf hg
end Go.Proofs.YtkfhppbmnjmnoaaGreatDoor.W
