/- BLOCKS OF BYTES that are written in place: what makes, copies and stores make of them. -/
import Derived.Test.YtagblhkihammdaaMem
import Derived.Deep.OwnRows
import Derived.Lib.BufferWrite
namespace Go.Proofs.Ytagblhkihammdaa.W
open Go.ChangeShapes Go.WideShapes Go.ChangeAt Go.RowKit

/-- w' is w but for block g; no block is new -/
structure Upd (w w' : World) (g : Nat) : Prop where
  os : w'.os = w.os
  tape : w'.tape = w.tape
  output : w'.output = w.output
  size : w'.heap.size = w.heap.size
  block : ∀ k, k ≠ g → w'.heap[k]? = w.heap[k]?
theorem Upd.refl (w : World) (g : Nat) : Upd w w g := ⟨rfl, rfl, rfl, rfl, fun _ _ => rfl⟩
theorem Upd.trans {w w' w'' : World} {g : Nat} (h : Upd w w' g) (k : Upd w' w'' g) : Upd w w'' g :=
  ⟨k.os.trans h.os, k.tape.trans h.tape, k.output.trans h.output, k.size.trans h.size, fun j hj => (k.block j hj).trans (h.block j hj)⟩
theorem Upd.setCell (w : World) (g i : Nat) (v : Value) : Upd w (w.setCell ⟨g, i, none⟩ v) g :=
  ⟨rfl, rfl, rfl, by simp [World.setCell], fun k hk => heap_setCell_other w ⟨g, i, none⟩ k v hk⟩
theorem Upd.setRow (w : World) (g : Nat) (cs : Array Value) : Upd w (w.setRow g cs) g :=
  ⟨rfl, rfl, rfl, by simp, fun k hk => setRow_other w g k cs hk⟩
theorem Upd.below {w w' : World} {g base : Nat} (h : Upd w w' g) (hg : base ≤ g) : Below base w w' :=
  ⟨h.os, h.tape, h.output, Nat.le_of_eq h.size.symm, fun k hk => h.block k (by omega)⟩
theorem Upd.cell {w w' : World} {g : Nat} (h : Upd w w' g) {p : Addr} (hp : p.block ≠ g) : w'.cell? p = w.cell? p := World.cell?_of_block (h.block p.block hp)
theorem Upd.drew {w w' : World} {g : Nat} (h : Upd w w' g) : Upd w w'.drew g := ⟨h.os, h.tape, h.output, h.size, h.block⟩

/-- block g holds just these bytes -/
def Blk (w : World) (g : Nat) (L : List UInt8) : Prop := w.heap[g]? = some (.cells (L.map B).toArray 5 (0, 0))
theorem Blk.lt {w : World} {g : Nat} {L : List UInt8} (h : Blk w g L) : g < w.heap.size := (Array.getElem?_eq_some_iff.1 h).1
theorem Blk.cell {w : World} {g : Nat} {L : List UInt8} (h : Blk w g L) (i : Nat) (hi : i < L.length) : w.cell? ⟨g, i, none⟩ = some (B (L.getD i 0)) := by
  rw [cell_of_row w g i _ _ _ h]; simp [hi]
theorem Blk.frozen {w : World} {g : Nat} {L : List UInt8} (h : Blk w g L) (i : Nat) : w.frozen? ⟨g, i, none⟩ = false := frozen_of_row w g i _ _ h
theorem Blk.set {w : World} {g : Nat} {L : List UInt8} (h : Blk w g L) (i : Nat) (x : UInt8) : Blk (w.setCell ⟨g, i, none⟩ (B x)) g (L.set i x) := by
  have := heap_setCell_same w g i _ _ (B x) h
  unfold Blk; rw [this]
  congr 2
  apply Array.ext'
  simp [List.map_set]
theorem Blk.other {w w' : World} {g k : Nat} {L : List UInt8} (h : Blk w g L) (hu : Upd w w' k) (hk : g ≠ k) : Blk w' g L := by
  unfold Blk; rw [hu.block g hk]; exact h
theorem Blk.mono {w w' : World} {g : Nat} {L : List UInt8} (h : Blk w g L) (hb : Below w.heap.size w w') : Blk w' g L := by
  unfold Blk; rw [hb.block g h.lt]; exact h
theorem Blk.rd {w : World} {g : Nat} {L : List UInt8} (h : Blk w g L) (hm : L.length ≤ 9223372036854775807) : Rd w (some ⟨g, 0, none⟩) L.length L.length L :=
  ⟨rfl, Nat.le_refl _, hm, (fun h => by cases h), .inr ⟨g, 0, rfl, h.lt, fun i hi => by rw [Nat.zero_add]; exact h.cell i hi⟩⟩
theorem Blk.fr {w : World} {g base : Nat} {L : List UInt8} (h : Blk w g L) (hg : base ≤ g) (hm : L.length ≤ 9223372036854775807) : Fr w base (.slice (some ⟨g, 0, none⟩) L.length L.length) L := by
  refine ⟨by simp, .inr ⟨g, L.length, _, rfl, hg, h, Nat.le_refl _, by unfold maxLen; omega, by simp, ?_⟩⟩
  rw [Nat.mul_one]; exact List.take_of_length_le (by simp)

theorem Rd.upd {w w' : World} {a : Option Addr} {len cap g : Nat} {l : List UInt8} (h : Rd w a len cap l) (hu : Upd w w' g) (hg : ∀ b off, a = some ⟨b, off, none⟩ → b ≠ g) : Rd w' a len cap l := by
  obtain ⟨h1, h2, h3, h4, h5⟩ := h
  refine ⟨h1, h2, h3, h4, ?_⟩
  rcases h5 with h5 | ⟨b, off, rfl, hlt, hc⟩
  · exact .inl h5
  · right
    refine ⟨b, off, rfl, by rw [hu.size]; exact hlt, fun i hi => ?_⟩
    rw [hu.cell (p := ⟨b, off + i, none⟩) (hg b off rfl)]; exact hc i hi

set_option maxRecDepth 100000 in
/-- MAKE of n bytes. -/
theorem make_blk {w : World} {ops : Array Oper} {rest : List Oper} {o : Oper} {a : Act} {Q : Exit → Act → World → Prop} (hgd : o.guard = none) (x y : Operand)
    (ho : o.op = Op.makeSlice 25 x y) (X : Int) (n : Nat) (hx : a.eval x = .int .i64 X) (hy : a.eval y = .int .i64 X) (hn : X = (n : Int)) (hmax : n ≤ 281474976710656)
    (h : ∀ w', Blk w' w.heap.size (List.replicate n 0) → Below w.heap.size w w' → w'.heap.size = w.heap.size + 1 → wpList Try.prog ops Q rest (a.put o.dst (.slice (some ⟨w.heap.size, 0, none⟩) n n)) w') :
    wpList Try.prog ops Q (o :: rest) a w := by
  obtain ⟨i0, hi, hz0, hz1, hz2⟩ := info_parts infoByte
  subst hn
  refine wpList_make_row w hgd x y 25 ho 5 i0 (.int .u8 0) Try.underlying25 hi hz0 hz1 rfl .i64 .i64 n hx hy (by rw [hz2]; omega) (by omega) ?_
  refine h _ ?_ ((Below.refl _ _).alloc (Nat.le_refl _) _) (by simp)
  unfold Blk
  rw [heap_alloc_new]
  congr 2
  apply Array.ext'
  rw [toList_madeCells_one, List.map_replicate]; rfl

/-- COPY into a block of bytes, out of what reads as bytes. -/
theorem copy_rd {w : World} {ops : Array Oper} {rest : List Oper} {o : Oper} {a : Act} {Q : Exit → Act → World → Prop} (hgd : o.guard = none) (d s : Operand)
    (ho : o.op = .call { callee := .builtin .copy, args := #[d, s], argTypes := #[25, 25] }) (dp sp : Option Addr) (dLen dCap sLen sCap : Nat) (hd : a.eval d = .slice dp dLen dCap) (hs : a.eval s = .slice sp sLen sCap)
    (g off : Nat) (L : List UInt8) (hg : Blk w g L) (l : List UInt8) (hr : Rd w sp sLen sCap l) (hle : sLen ≤ dLen) (hdp : 0 < dLen → dp = some ⟨g, off, none⟩) (hfit : off + dLen ≤ L.length)
    (h : ∀ w', Blk w' g (splice L off l) → Upd w w' g → wpList Try.prog ops Q rest (a.put o.dst (goInt sLen)) w') : wpList Try.prog ops Q (o :: rest) a w := by
  have hlen := hr.hlen
  by_cases h0 : sLen = 0
  · have hl : l = [] := List.eq_nil_of_length_eq_zero (by omega)
    subst hl
    refine wpList_copy_nothing hgd d s 25 25 ho 5 Try.underlying25 infoByte1 dp sp dLen dCap sLen sCap hd hs (by simp; omega) ?_
    have := h w (by simpa [splice] using hg) (Upd.refl _ _)
    rwa [h0] at this
  · obtain ⟨b, so, rfl, -, hc⟩ := hr.lt_of h0
    have hdp' := hdp (by omega)
    subst hdp'
    refine wpList_copy_own hgd d s 25 25 ho 5 Try.underlying25 infoByte1 g off dLen dCap _ sLen sCap hd hs _ _ hg (l.map B) (by rw [List.length_map, hlen]; exact (Nat.min_eq_left hle).symm) ?_ (by simp; omega) (B_one l) ?_
    · intro j v hj
      have hj' : j < l.length := by have := (List.getElem?_eq_some_iff.1 hj).1; simpa using this
      rw [Go.WideShapes.add_plain, hc j (by omega)]
      rw [List.getElem?_map, List.getElem?_eq_getElem hj'] at hj
      simp at hj; subst hj; simp [hj']
    · have e : (l.map B).length = sLen := by simp [hlen]
      rw [e]
      refine h _ ?_ (Upd.setRow _ _ _)
      unfold Blk
      rw [setRow_heap w g _ _ _ _ hg]
      congr 2
      simp [splice, hlen]

set_option maxRecDepth 100000 in
/-- COPY into a block of bytes, out of a string. -/
theorem copy_str {w : World} {ops : Array Oper} {rest : List Oper} {o : Oper} {a : Act} {Q : Exit → Act → World → Prop} (hgd : o.guard = none) (d s : Operand)
    (ho : o.op = .call { callee := .builtin .copy, args := #[d, s], argTypes := #[25, 9] }) (dp : Option Addr) (dLen dCap : Nat) (t : ByteArray) (hd : a.eval d = .slice dp dLen dCap) (hs : a.eval s = .string t)
    (g off : Nat) (L : List UInt8) (hg : Blk w g L) (hle : t.size ≤ dLen) (hdp : 0 < dLen → dp = some ⟨g, off, none⟩) (hfit : off + dLen ≤ L.length)
    (h : ∀ w', Blk w' g (splice L off t.data.toList) → Upd w w' g → wpList Try.prog ops Q rest (a.put o.dst (goInt t.size)) w') : wpList Try.prog ops Q (o :: rest) a w := by
  by_cases h0 : t.size = 0
  · have hrun := Lib.run_copy_empty_string (P := Try.prog) w 25 9 o.type 5 dp dLen dCap t Try.underlying25 (by rw [infoByte1]; rfl) h0
    refine wpList_plain hgd fun K hK => ?_
    unfold Oper.wp
    simp [execOp, ho, resolve, invoke, builtin, hd, hs, hrun, Result.andThen]
    have e : t.data.toList = [] := List.eq_nil_of_length_eq_zero (by simpa using h0)
    have := h w (by simpa [splice, e] using hg) (Upd.refl _ _)
    rw [h0] at this
    exact hK _ _ this
  · have hdp' := hdp (by omega)
    subst hdp'
    have hrun := Lib.run_copy_row_string (P := Try.prog) w 25 9 o.type 5 g off dLen dCap t _ _ Try.underlying25 infoByte1 hg hle (by simp; omega)
    refine wpList_plain hgd fun K hK => ?_
    unfold Oper.wp
    simp [execOp, ho, resolve, invoke, builtin, hd, hs, hrun, Result.andThen]
    refine hK _ _ (h _ ?_ (Upd.setRow _ _ _))
    unfold Blk
    rw [setRow_heap w g _ _ _ _ hg]
    congr 2
    simp only [splice, Lib.byteCells, List.map_append, List.map_take, List.map_drop]
    rfl

end Go.Proofs.Ytagblhkihammdaa.W
