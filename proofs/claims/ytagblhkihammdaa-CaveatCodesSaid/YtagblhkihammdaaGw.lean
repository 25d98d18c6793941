/- A WORLD THAT HAS GROWN, and of whose old blocks one alone was written. -/
import Derived.Test.YtagblhkihammdaaArr
import Derived.WalkSmall
namespace Go.Proofs.Ytagblhkihammdaa.W
open Go.ChangeShapes Go.WideShapes Go.ChangeAt Go.RowKit

/-- w' is w, grown, but for block g -/
structure Gw (g : Nat) (w w' : World) : Prop where
  os : w'.os = w.os
  tape : w'.tape = w.tape
  output : w'.output = w.output
  size : w.heap.size ≤ w'.heap.size
  block : ∀ k, k < w.heap.size → k ≠ g → w'.heap[k]? = w.heap[k]?
theorem Gw.refl (g : Nat) (w : World) : Gw g w w := ⟨rfl, rfl, rfl, Nat.le_refl _, fun _ _ _ => rfl⟩
theorem Gw.trans {g : Nat} {w w' w'' : World} (h : Gw g w w') (k : Gw g w' w'') : Gw g w w'' :=
  ⟨k.os.trans h.os, k.tape.trans h.tape, k.output.trans h.output, Nat.le_trans h.size k.size, fun j hj hg => (k.block j (Nat.lt_of_lt_of_le hj h.size) hg).trans (h.block j hj hg)⟩
theorem Gw.upd {g : Nat} {w w' : World} (h : Upd w w' g) : Gw g w w' := ⟨h.os, h.tape, h.output, Nat.le_of_eq h.size.symm, fun k _ hg => h.block k hg⟩
theorem Gw.of_below {g : Nat} {w w' : World} (h : Below w.heap.size w w') : Gw g w w' := ⟨h.os, h.tape, h.output, h.size, fun k hk _ => h.block k hk⟩
theorem Gw.drewN {g : Nat} (w : World) (n : Nat) : Gw g w (w.drewN n) := Gw.of_below (below_drewN (Below.refl _ _) n)
theorem Gw.below {g base : Nat} {w w' : World} (h : Gw g w w') (hg : base ≤ g) (hb : base ≤ w.heap.size) : Below base w w' := ⟨h.os, h.tape, h.output, h.size, fun k hk => h.block k (by omega) (by omega)⟩
theorem Row.gw {g g' : Nat} {w w' : World} {t : TypeId} {L : List Value} (h : Row w g' t L) (k : Gw g w w') (hn : g' ≠ g) : Row w' g' t L := (k.block g' h.lt hn).trans h
theorem Gw.cell {g : Nat} {w w' : World} (h : Gw g w w') {p : Addr} (hp : p.block < w.heap.size) (hn : p.block ≠ g) : w'.cell? p = w.cell? p := World.cell?_of_block (h.block p.block hp hn)
theorem Rd.gw {g : Nat} {w w' : World} {a : Option Addr} {len cap : Nat} {l : List UInt8} (h : Rd w a len cap l) (k : Gw g w w') (hn : len ≠ 0 → ∀ b off, a = some ⟨b, off, none⟩ → b ≠ g) : Rd w' a len cap l := by
  obtain ⟨h1, h2, h3, h4, h5⟩ := h
  refine ⟨h1, h2, h3, h4, ?_⟩
  by_cases h0 : len = 0
  · exact .inl h0
  · obtain ⟨b, off, rfl, hlt, hc⟩ := h5.resolve_left h0
    exact .inr ⟨b, off, rfl, Nat.lt_of_lt_of_le hlt k.size, fun i hi => by rw [k.cell hlt (hn h0 b off rfl)]; exact hc i hi⟩

end Go.Proofs.Ytagblhkihammdaa.W
