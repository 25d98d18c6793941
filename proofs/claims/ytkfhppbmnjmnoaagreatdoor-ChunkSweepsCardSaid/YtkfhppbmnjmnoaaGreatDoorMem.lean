/- BYTES IN MEMORY: a slice that reads as a list of bytes (Rd); a slice that a call made and owns (Fr); what appends, copies and slicings make of them. BLOCKS OF BYTES that are written in place: what makes, copies and stores make of them. CONTRACTS of slices.Clone and slices.Equal at bytes; small facts on what a call owns. -/
import Derived.Test.YtkfhppbmnjmnoaaGreatDoorBase
import Derived.Laws.AppendOwnNone
import Derived.Laws.CopyOwn
import Derived.Laws.OwnMore
import Derived.Lib.AppendStr
import Derived.Deep.OwnRows
import Derived.Lib.BufferWrite
import Derived.Deep.QuietTactic
import Derived.BigQuiet
import Derived.Laws.IdiomStrings
import Derived.Laws.BytesArg
set_option linter.unusedSimpArgs false
set_option linter.unusedVariables false
namespace Go.Proofs.YtkfhppbmnjmnoaaGreatDoor.W
open Go.ChangeShapes Go.WideShapes Go.ChangeAt Go.RowKit

/-- a byte as a cell -/
def B (x : UInt8) : Value := .int .u8 (x.toNat : Int)
theorem B_one (l : List UInt8) : ∀ u ∈ l.map B, u.oneCell' = true := by
  intro u hu
  obtain ⟨x, -, rfl⟩ := List.mem_map.1 hu
  rfl

/-- A slice that reads as the bytes l. -/
structure Rd (w : World) (a : Option Addr) (len cap : Nat) (l : List UInt8) : Prop where
  hlen : l.length = len
  hle : len ≤ cap
  hmax : cap ≤ 9223372036854775807
  hnil : a = none → cap = 0
  hcells : len = 0 ∨ ∃ b off, a = some ⟨b, off, none⟩ ∧ b < w.heap.size ∧ ∀ i, i < len → w.cell? ⟨b, off + i, none⟩ = some (B (l.getD i 0))

theorem Rd.mono {w w' : World} {a : Option Addr} {len cap : Nat} {l : List UInt8} (h : Rd w a len cap l) (hb : Below w.heap.size w w') : Rd w' a len cap l := by
  obtain ⟨h1, h2, h3, h4, h5⟩ := h
  refine ⟨h1, h2, h3, h4, ?_⟩
  rcases h5 with h5 | ⟨b, off, rfl, hlt, hc⟩
  · exact .inl h5
  · right
    refine ⟨b, off, rfl, Nat.lt_of_lt_of_le hlt hb.size, fun i hi => ?_⟩
    rw [hb.cell (p := ⟨b, off + i, none⟩) hlt]; exact hc i hi
theorem Rd.lt_of {w : World} {a : Option Addr} {len cap : Nat} {l : List UInt8} (h : Rd w a len cap l) (hn : len ≠ 0) :
    ∃ b off, a = some ⟨b, off, none⟩ ∧ b < w.heap.size ∧ ∀ i, i < len → w.cell? ⟨b, off + i, none⟩ = some (B (l.getD i 0)) := h.hcells.resolve_left hn
/-- nil reads as no bytes -/
theorem Rd_nil (w : World) : Rd w none 0 0 [] := ⟨rfl, by omega, by omega, fun _ => rfl, .inl rfl⟩

theorem getD_map_int (zs : List Int) (i : Nat) (hz : ∀ n ∈ zs, (Lit.int .u8 n).wf = true) (hi : i < zs.length) :
    ((((zs.map fun n => UInt8.ofNat n.toNat).getD i 0).toNat : Nat) : Int) = zs.getD i 0 := by
  have h1 := bd8 (hz (zs[i]) (List.getElem_mem hi))
  simp [hi, UInt8.toNat_ofNat']
  omega
/-- a slice of bytes that came in reads as bytes -/
theorem Rd.of_row {w : World} {a : Option Addr} {len cap : Nat} {zs : List Int} (h : IsRow .u8 w a len cap zs) :
    Rd w a len cap ((zs.take len).map fun n => UInt8.ofNat n.toNat) := by
  have hs := Sl.of_row h
  obtain ⟨⟨h1, h2, h3, h4⟩, h5⟩ := hs
  have hmax : cap ≤ 9223372036854775807 ∧ (a = Option.none → cap = 0) := by
    rcases h with ⟨rfl, rfl, rfl, rfl⟩ | ⟨x, rfl, hl, hm, -⟩
    · exact ⟨by omega, fun _ => rfl⟩
    · unfold maxLen at hm; exact ⟨by omega, fun h => by cases h⟩
  refine ⟨by simpa using h1, h5, hmax.1, hmax.2, ?_⟩
  rcases h4 with h4 | ⟨b, off, rfl, hlt, hc⟩
  · exact .inl h4
  · right
    refine ⟨b, off, rfl, hlt, fun i hi => ?_⟩
    rw [hc i hi, B, getD_map_int _ _ h3 (by omega)]

/-- A slice that the call made, and owns from block number base on: its bytes. -/
def Fr (w : World) (base : Nat) (v : Value) (l : List UInt8) : Prop := w.ownsRow base 5 1 v l.length (l.map B)

theorem Fr.nil (w : World) (base : Nat) : Fr w base (.slice none 0 0) [] := World.ownsRow_nil _ _ _ _
theorem Fr.kept {w w' : World} {base : Nat} {v : Value} {l : List UInt8} (h : Fr w base v l) (hb : Below w.heap.size w w') : Fr w' base v l := by
  have hlt := World.ownsRow.lt h
  obtain ⟨h1, h2⟩ := h
  refine ⟨h1, ?_⟩
  rcases h2 with h2 | ⟨g, cap, cur, rfl, hg, hh, r⟩
  · exact .inl h2
  · exact .inr ⟨g, cap, cur, rfl, hg, by rw [hb.block g (hlt g rfl).2]; exact hh, r⟩
theorem Fr.alloc {w : World} {base : Nat} {v : Value} {l : List UInt8} (h : Fr w base v l) (o : Obj) : Fr (w.alloc o) base v l := World.ownsRow.alloc h o
theorem Fr.base {w : World} {base base' : Nat} {v : Value} {l : List UInt8} (h : Fr w base v l) (hb : base' ≤ base) : Fr w base' v l := by
  obtain ⟨h1, h2⟩ := h
  refine ⟨h1, ?_⟩
  rcases h2 with h2 | ⟨g, cap, cur, rfl, hg, r⟩
  · exact .inl h2
  · exact .inr ⟨g, cap, cur, rfl, by omega, r⟩
/-- what it is, and that it reads as its bytes -/
theorem Fr.form {w : World} {base : Nat} {v : Value} {l : List UInt8} (h : Fr w base v l) :
    ∃ a cap, v = .slice a l.length cap ∧ Rd w a l.length cap l ∧ (a = none ∨ ∃ g, a = some ⟨g, 0, none⟩ ∧ base ≤ g ∧ g < w.heap.size) := by
  have hlt := World.ownsRow.lt h
  have hc := fun g hg => World.ownsRow.cells h (g := g) hg
  obtain ⟨h1, h2⟩ := h
  rcases h2 with ⟨rfl, h0⟩ | ⟨g, cap, cur, rfl, hg, hh, hn, hm, r⟩
  · rw [h0]
    exact ⟨none, 0, rfl, ⟨h0, by omega, by omega, fun _ => rfl, .inl rfl⟩, .inl rfl⟩
  · refine ⟨_, cap, rfl, ⟨rfl, hn, by unfold maxLen at hm; omega, (fun h => by cases h), ?_⟩, .inr ⟨g, rfl, hg, (hlt g rfl).2⟩⟩
    right
    refine ⟨g, 0, rfl, (hlt g rfl).2, fun i hi => ?_⟩
    have h3 := hc g rfl i (B (l.getD i 0)) (by simp [hi])
    rw [Go.WideShapes.add_plain] at h3; exact h3

theorem infoByte : (Tryz.prog.info? 5).map (fun i => (i.zero, i.size, i.bytes)) = some (some (.int .u8 0), 1, 1) := by kernel_rfl
theorem infoByte1 : (Tryz.prog.info? 5).map (·.size) = some 1 := by kernel_rfl

/-- APPEND of what reads as bytes to what the call owns. -/
theorem append_rd {w : World} {ops : Array Oper} {rest : List Oper} {o : Oper} {a : Act} {Q : Exit → Act → World → Prop} (hgd : o.guard = none) (s x : Operand)
    (ho : o.op = .call { callee := .builtin .append, args := #[s, x], argTypes := #[30, 30] })
    (base : Nat) (v : Value) (l : List UInt8) (hs : a.eval s = v) (hown : Fr w base v l)
    (sa : Option Addr) (m c : Nat) (news : List UInt8) (hx : a.eval x = .slice sa m c) (hr : Rd w sa m c news) (hmax : l.length + m ≤ 140737488355328) (hbase : base ≤ w.heap.size)
    (h : ∀ v' w', Fr w' base v' (l ++ news) → Below base w w' → w.grownBy w' v.ownBlock → wpList Tryz.prog ops Q rest (a.put o.dst v') w') : wpList Tryz.prog ops Q (o :: rest) a w := by
  obtain ⟨i0, hi, hz0, hz1, hz2⟩ := info_parts infoByte
  have hlt := World.ownsRow.lt hown
  rcases sa with _ | ad
  · have hc0 : c = 0 := hr.hnil rfl
    have hm0 : m = 0 := by have := hr.hle; omega
    subst hc0 hm0
    have hn : news = [] := List.eq_nil_of_length_eq_zero hr.hlen
    subst hn
    exact wpList_append_own_none hgd s x 30 ho base 5 i0 1 Tryz.underlying30 hi v l.length (l.map B) hs hown hx (h v w (by simpa using hown) (Below.refl _ _) (World.grownBy.refl _ _))
  · refine wpList_append_own w hgd s x 30 ho base 5 i0 (.int .u8 0) 1 1 Tryz.underlying30 hi hz0 hz1 hz2 rfl (by decide) v l.length (l.map B) hs hown ad m c (news.map B) hx (by simp [hr.hlen]) ?_ (B_one news) (by unfold maxLen; omega) (by omega) hbase ?_
    · intro j u hj
      have hj' : j < news.length := by
        have := (List.getElem?_eq_some_iff.1 hj).1; simpa using this
      obtain ⟨b, off, e, -, hc⟩ := hr.lt_of (by have := hr.hlen; omega)
      obtain rfl : ad = ⟨b, off, none⟩ := by simpa using e
      rw [Go.WideShapes.add_plain, hc j (by have := hr.hlen; omega)]
      rw [List.getElem?_map, List.getElem?_eq_getElem hj'] at hj
      simp at hj; subst hj; simp [hj']
    · intro v' w' hown' hg _
      refine h v' w' ?_ ((Below.refl _ _).grown hg hbase (fun k hk => (hlt k hk).1)) hg
      unfold Fr; rw [List.length_append, List.map_append, hr.hlen]; exact hown'

/-- APPEND of a string's bytes to what the call owns. -/
theorem append_str {w : World} {ops : Array Oper} {rest : List Oper} {o : Oper} {a : Act} {Q : Exit → Act → World → Prop} (hgd : o.guard = none) (s x : Operand)
    (ho : o.op = .call { callee := .builtin .append, args := #[s, x], argTypes := #[30, 9] })
    (base : Nat) (v : Value) (l : List UInt8) (hs : a.eval s = v) (hown : Fr w base v l) (t : ByteArray) (hx : a.eval x = .string t)
    (hmax : l.length + t.size ≤ 140737488355328) (hbase : base ≤ w.heap.size)
    (h : ∀ v' w', Fr w' base v' (l ++ t.data.toList) → Below base w w' → w.grownBy w' v.ownBlock → wpList Tryz.prog ops Q rest (a.put o.dst v') w') : wpList Tryz.prog ops Q (o :: rest) a w := by
  obtain ⟨i0, hi, hz0, hz1, hz2⟩ := info_parts infoByte
  have hlt := World.ownsRow.lt hown
  refine Lib.wpList_append_own_string w hgd s x 30 9 ho base 5 i0 Tryz.underlying30 Tryz.underlying9 hi hz0 hz1 hz2 v l.length (l.map B) hs hown t hx (by unfold maxLen; omega) hmax hbase ?_
  intro v' w' hown' hg _
  refine h v' w' ?_ ((Below.refl _ _).grown hg hbase (fun k hk => (hlt k hk).1)) hg
  unfold Fr; rw [List.length_append, List.map_append]; exact hown'

end Go.Proofs.YtkfhppbmnjmnoaaGreatDoor.W

namespace Go.Proofs.YtkfhppbmnjmnoaaGreatDoor.W
open Go.ChangeShapes Go.WideShapes Go.ChangeAt Go.RowKit

/-- w' is w but for block g; no block is new -/
structure Upd (w w' : World) (g : Nat) : Prop where
  os : w'.os = w.os
  tape : w'.tape = w.tape
  output : w'.output = w.output
  size : w'.heap.size = w.heap.size
  block : ∀ k, k ≠ g → w'.heap[k]? = w.heap[k]?
theorem Upd.refl (w : World) (g : Nat) : Upd w w g := ⟨rfl, rfl, rfl, rfl, fun _ _ => rfl⟩
theorem Upd.trans {w w' w'' : World} {g : Nat} (h : Upd w w' g) (k : Upd w' w'' g) : Upd w w'' g :=
  ⟨k.os.trans h.os, k.tape.trans h.tape, k.output.trans h.output, k.size.trans h.size, fun j hj => (k.block j hj).trans (h.block j hj)⟩
theorem Upd.setCell (w : World) (g i : Nat) (v : Value) : Upd w (w.setCell ⟨g, i, none⟩ v) g :=
  ⟨rfl, rfl, rfl, by simp [World.setCell], fun k hk => heap_setCell_other w ⟨g, i, none⟩ k v hk⟩
theorem Upd.setRow (w : World) (g : Nat) (cs : Array Value) : Upd w (w.setRow g cs) g :=
  ⟨rfl, rfl, rfl, by simp, fun k hk => setRow_other w g k cs hk⟩
theorem Upd.below {w w' : World} {g base : Nat} (h : Upd w w' g) (hg : base ≤ g) : Below base w w' :=
  ⟨h.os, h.tape, h.output, Nat.le_of_eq h.size.symm, fun k hk => h.block k (by omega)⟩
theorem Upd.cell {w w' : World} {g : Nat} (h : Upd w w' g) {p : Addr} (hp : p.block ≠ g) : w'.cell? p = w.cell? p := World.cell?_of_block (h.block p.block hp)
theorem Upd.drew {w w' : World} {g : Nat} (h : Upd w w' g) : Upd w w'.drew g := ⟨h.os, h.tape, h.output, h.size, h.block⟩

/-- block g holds just these bytes -/
def Blk (w : World) (g : Nat) (L : List UInt8) : Prop := w.heap[g]? = some (.cells (L.map B).toArray 5 (0, 0))
theorem Blk.lt {w : World} {g : Nat} {L : List UInt8} (h : Blk w g L) : g < w.heap.size := (Array.getElem?_eq_some_iff.1 h).1
theorem Blk.cell {w : World} {g : Nat} {L : List UInt8} (h : Blk w g L) (i : Nat) (hi : i < L.length) : w.cell? ⟨g, i, none⟩ = some (B (L.getD i 0)) := by
  rw [cell_of_row w g i _ _ _ h]; simp [hi]
theorem Blk.frozen {w : World} {g : Nat} {L : List UInt8} (h : Blk w g L) (i : Nat) : w.frozen? ⟨g, i, none⟩ = false := frozen_of_row w g i _ _ h
theorem Blk.set {w : World} {g : Nat} {L : List UInt8} (h : Blk w g L) (i : Nat) (x : UInt8) : Blk (w.setCell ⟨g, i, none⟩ (B x)) g (L.set i x) := by
  have := heap_setCell_same w g i _ _ (B x) h
  unfold Blk; rw [this]
  congr 2
  apply Array.ext'
  simp [List.map_set]
theorem Blk.other {w w' : World} {g k : Nat} {L : List UInt8} (h : Blk w g L) (hu : Upd w w' k) (hk : g ≠ k) : Blk w' g L := by
  unfold Blk; rw [hu.block g hk]; exact h
theorem Blk.mono {w w' : World} {g : Nat} {L : List UInt8} (h : Blk w g L) (hb : Below w.heap.size w w') : Blk w' g L := by
  unfold Blk; rw [hb.block g h.lt]; exact h
theorem Blk.rd {w : World} {g : Nat} {L : List UInt8} (h : Blk w g L) (hm : L.length ≤ 9223372036854775807) : Rd w (some ⟨g, 0, none⟩) L.length L.length L :=
  ⟨rfl, Nat.le_refl _, hm, (fun h => by cases h), .inr ⟨g, 0, rfl, h.lt, fun i hi => by rw [Nat.zero_add]; exact h.cell i hi⟩⟩
theorem Blk.fr {w : World} {g base : Nat} {L : List UInt8} (h : Blk w g L) (hg : base ≤ g) (hm : L.length ≤ 9223372036854775807) : Fr w base (.slice (some ⟨g, 0, none⟩) L.length L.length) L := by
  refine ⟨by simp, .inr ⟨g, L.length, _, rfl, hg, h, Nat.le_refl _, by unfold maxLen; omega, by simp, ?_⟩⟩
  rw [Nat.mul_one]; exact List.take_of_length_le (by simp)

theorem Rd.upd {w w' : World} {a : Option Addr} {len cap g : Nat} {l : List UInt8} (h : Rd w a len cap l) (hu : Upd w w' g) (hg : ∀ b off, a = some ⟨b, off, none⟩ → b ≠ g) : Rd w' a len cap l := by
  obtain ⟨h1, h2, h3, h4, h5⟩ := h
  refine ⟨h1, h2, h3, h4, ?_⟩
  rcases h5 with h5 | ⟨b, off, rfl, hlt, hc⟩
  · exact .inl h5
  · right
    refine ⟨b, off, rfl, by rw [hu.size]; exact hlt, fun i hi => ?_⟩
    rw [hu.cell (p := ⟨b, off + i, none⟩) (hg b off rfl)]; exact hc i hi

set_option maxRecDepth 100000 in
/-- MAKE of n bytes. -/
theorem make_blk {w : World} {ops : Array Oper} {rest : List Oper} {o : Oper} {a : Act} {Q : Exit → Act → World → Prop} (hgd : o.guard = none) (x y : Operand)
    (ho : o.op = Op.makeSlice 30 x y) (X : Int) (n : Nat) (hx : a.eval x = .int .i64 X) (hy : a.eval y = .int .i64 X) (hn : X = (n : Int)) (hmax : n ≤ 281474976710656)
    (h : ∀ w', Blk w' w.heap.size (List.replicate n 0) → Below w.heap.size w w' → w'.heap.size = w.heap.size + 1 → wpList Tryz.prog ops Q rest (a.put o.dst (.slice (some ⟨w.heap.size, 0, none⟩) n n)) w') :
    wpList Tryz.prog ops Q (o :: rest) a w := by
  obtain ⟨i0, hi, hz0, hz1, hz2⟩ := info_parts infoByte
  subst hn
  refine wpList_make_row w hgd x y 30 ho 5 i0 (.int .u8 0) Tryz.underlying30 hi hz0 hz1 rfl .i64 .i64 n hx hy (by rw [hz2]; omega) (by omega) ?_
  refine h _ ?_ ((Below.refl _ _).alloc (Nat.le_refl _) _) (by simp)
  unfold Blk
  rw [heap_alloc_new]
  congr 2
  apply Array.ext'
  rw [toList_madeCells_one, List.map_replicate]; rfl

/-- COPY into a block of bytes, out of what reads as bytes. -/
theorem copy_rd {w : World} {ops : Array Oper} {rest : List Oper} {o : Oper} {a : Act} {Q : Exit → Act → World → Prop} (hgd : o.guard = none) (d s : Operand)
    (ho : o.op = .call { callee := .builtin .copy, args := #[d, s], argTypes := #[30, 30] }) (dp sp : Option Addr) (dLen dCap sLen sCap : Nat) (hd : a.eval d = .slice dp dLen dCap) (hs : a.eval s = .slice sp sLen sCap)
    (g off : Nat) (L : List UInt8) (hg : Blk w g L) (l : List UInt8) (hr : Rd w sp sLen sCap l) (hle : sLen ≤ dLen) (hdp : 0 < dLen → dp = some ⟨g, off, none⟩) (hfit : off + dLen ≤ L.length)
    (h : ∀ w', Blk w' g (splice L off l) → Upd w w' g → wpList Tryz.prog ops Q rest (a.put o.dst (goInt sLen)) w') : wpList Tryz.prog ops Q (o :: rest) a w := by
  have hlen := hr.hlen
  by_cases h0 : sLen = 0
  · have hl : l = [] := List.eq_nil_of_length_eq_zero (by omega)
    subst hl
    refine wpList_copy_nothing hgd d s 30 30 ho 5 Tryz.underlying30 infoByte1 dp sp dLen dCap sLen sCap hd hs (by simp; omega) ?_
    have := h w (by simpa [splice] using hg) (Upd.refl _ _)
    rwa [h0] at this
  · obtain ⟨b, so, rfl, -, hc⟩ := hr.lt_of h0
    have hdp' := hdp (by omega)
    subst hdp'
    refine wpList_copy_own hgd d s 30 30 ho 5 Tryz.underlying30 infoByte1 g off dLen dCap _ sLen sCap hd hs _ _ hg (l.map B) (by rw [List.length_map, hlen]; exact (Nat.min_eq_left hle).symm) ?_ (by simp; omega) (B_one l) ?_
    · intro j v hj
      have hj' : j < l.length := by have := (List.getElem?_eq_some_iff.1 hj).1; simpa using this
      rw [Go.WideShapes.add_plain, hc j (by omega)]
      rw [List.getElem?_map, List.getElem?_eq_getElem hj'] at hj
      simp at hj; subst hj; simp [hj']
    · have e : (l.map B).length = sLen := by simp [hlen]
      rw [e]
      refine h _ ?_ (Upd.setRow _ _ _)
      unfold Blk
      rw [setRow_heap w g _ _ _ _ hg]
      congr 2
      simp [splice, hlen]

set_option maxRecDepth 100000 in
/-- COPY into a block of bytes, out of a string. -/
theorem copy_str {w : World} {ops : Array Oper} {rest : List Oper} {o : Oper} {a : Act} {Q : Exit → Act → World → Prop} (hgd : o.guard = none) (d s : Operand)
    (ho : o.op = .call { callee := .builtin .copy, args := #[d, s], argTypes := #[30, 9] }) (dp : Option Addr) (dLen dCap : Nat) (t : ByteArray) (hd : a.eval d = .slice dp dLen dCap) (hs : a.eval s = .string t)
    (g off : Nat) (L : List UInt8) (hg : Blk w g L) (hle : t.size ≤ dLen) (hdp : 0 < dLen → dp = some ⟨g, off, none⟩) (hfit : off + dLen ≤ L.length)
    (h : ∀ w', Blk w' g (splice L off t.data.toList) → Upd w w' g → wpList Tryz.prog ops Q rest (a.put o.dst (goInt t.size)) w') : wpList Tryz.prog ops Q (o :: rest) a w := by
  by_cases h0 : t.size = 0
  · have hrun := Lib.run_copy_empty_string (P := Tryz.prog) w 30 9 o.type 5 dp dLen dCap t Tryz.underlying30 (by rw [infoByte1]; rfl) h0
    refine wpList_plain hgd fun K hK => ?_
    unfold Oper.wp
    simp [execOp, ho, resolve, invoke, builtin, hd, hs, hrun, Result.andThen]
    have e : t.data.toList = [] := List.eq_nil_of_length_eq_zero (by simpa using h0)
    have := h w (by simpa [splice, e] using hg) (Upd.refl _ _)
    rw [h0] at this
    exact hK _ _ this
  · have hdp' := hdp (by omega)
    subst hdp'
    have hrun := Lib.run_copy_row_string (P := Tryz.prog) w 30 9 o.type 5 g off dLen dCap t _ _ Tryz.underlying30 infoByte1 hg hle (by simp; omega)
    refine wpList_plain hgd fun K hK => ?_
    unfold Oper.wp
    simp [execOp, ho, resolve, invoke, builtin, hd, hs, hrun, Result.andThen]
    refine hK _ _ (h _ ?_ (Upd.setRow _ _ _))
    unfold Blk
    rw [setRow_heap w g _ _ _ _ hg]
    congr 2
    simp only [splice, Lib.byteCells, List.map_append, List.map_take, List.map_drop]
    rfl

end Go.Proofs.YtkfhppbmnjmnoaaGreatDoor.W

namespace Go.Proofs.YtkfhppbmnjmnoaaGreatDoor.W
open Go.ChangeShapes Go.WideShapes Go.ChangeAt Go.RowKit

/-- a store into a slice that the call owns -/
theorem Fr.set {w : World} {base g n cap : Nat} {l : List UInt8} (h : Fr w base (.slice (some ⟨g, 0, none⟩) n cap) l) (j : Nat) (x : UInt8) (hn : n = l.length) :
    Fr (w.setCell ⟨g, j, none⟩ (B x)) base (.slice (some ⟨g, 0, none⟩) n cap) (l.set j x) := by
  subst hn
  have := (World.ownsRow.stored h j (B x)).1
  unfold Fr; rw [List.length_set, List.map_set]; exact this
theorem Fr.cellAt {w : World} {base g n cap : Nat} {l : List UInt8} (h : Fr w base (.slice (some ⟨g, 0, none⟩) n cap) l) (j : Nat) (hj : j < l.length) (hn : n = l.length) :
    w.cell? ⟨g, j, none⟩ = some (B (l.getD j 0)) := by
  subst hn
  rw [World.ownsRow.cellAt h j (by omega)]; simp [hj]
theorem Fr.frozenAt {w : World} {base g n cap : Nat} {l : List UInt8} (h : Fr w base (.slice (some ⟨g, 0, none⟩) n cap) l) (j : Nat) (hn : n = l.length) :
    w.frozen? ⟨g, j, none⟩ = false := by
  subst hn
  exact World.ownsRow.frozenAt h j
theorem Fr.pos {w : World} {base : Nat} {v : Value} {l : List UInt8} (h : Fr w base v l) (hp : l ≠ []) : ∃ g cap, v = .slice (some ⟨g, 0, none⟩) l.length cap ∧ l.length ≤ cap ∧ base ≤ g ∧ g < w.heap.size := by
  obtain ⟨a, cap, rfl, hr, rfl | ⟨g, rfl, hg, hlt⟩⟩ := h.form
  · have h1 := hr.hnil rfl
    have h2 := hr.hle
    exact absurd (List.eq_nil_of_length_eq_zero (by omega)) hp
  · exact ⟨g, cap, rfl, hr.hle, hg, hlt⟩

/-! ### the library's -/
theorem Fr.empty (w : World) (base : Nat) (hb : base ≤ w.heap.size) : Fr (w.alloc (.cells #[] 5)) base (.slice (some ⟨w.heap.size, 0, none⟩) 0 0) [] :=
  ⟨rfl, .inr ⟨w.heap.size, 0, #[], rfl, hb, heap_alloc_new w _, Nat.le_refl _, Nat.zero_le _, rfl, rfl⟩⟩

set_option maxHeartbeats 400000 in
theorem sclone (a : Option Addr) (len cap : Nat) (l : List UInt8) (w : World) (hr : Rd w a len cap l) (hmax : len ≤ 140737488355000) :
    Calls Tryz.prog 36 #[.slice a len cap] w fun e w' => ∃ v, e = .returned v ∧ Fr w' w.heap.size v l ∧ Below w.heap.size w w' := by
  have HR := Lib.hid hr
  have hnil := fun (w : World) (a : Option Addr) (n c : Nat) => Lib.run_eql_slice_nil (P := Tryz.prog) w 30 5 a n c 0 0 Tryz.underlying30
  rcases a with _ | ad
  · have h0 := hr.hnil rfl
    have h1 := hr.hle
    have h2 := hr.hlen
    obtain rfl : len = 0 := by omega
    have : l = [] := List.eq_nil_of_length_eq_zero h2
    subst this h0
    clear hr h1 h2
    go_enter Tryz.func36, Tryz.ntmps36
    go_wp2_with fail
    go_ret
    exact ⟨_, rfl, Fr.nil _ _, Below.refl _ _⟩
  · clear hr
    go_enter Tryz.func36, Tryz.ntmps36
    go_wp2_with (at_builtin; refine append_rd rfl _ _ rfl w.heap.size _ [] rfl (Fr.empty w _ (Nat.le_refl _)) _ _ _ l rfl (HR.out.mono ((Below.refl _ _).alloc (Nat.le_refl _) _)) (by simp; omega) (by simp) ?_; intro v2 w2 hf2 hb2 _)
    go_ret
    exact ⟨_, rfl, hf2, ((Below.refl _ _).alloc (Nat.le_refl _) _).trans hb2⟩

theorem take_snoc_eq {l l' : List UInt8} {k : Nat} (h : k < l.length) (h' : k < l'.length) (ht : l.take k = l'.take k) (hx : l.getD k 0 = l'.getD k 0) : l.take (k + 1) = l'.take (k + 1) := by
  rw [List.take_succ_eq_append_getElem h, List.take_succ_eq_append_getElem h', ht]
  have h1 : l.getD k 0 = l[k] := by simp [h]
  have h2 : l'.getD k 0 = l'[k] := by simp [h']
  rw [← h1, ← h2, hx]

/-- nothing but draws -/
def Quiet (w w' : World) : Prop := ∃ q, w' = w.drewN q
theorem Quiet.below {w w' : World} (h : Quiet w w') (base : Nat) : Below base w w' := by
  obtain ⟨q, rfl⟩ := h
  exact below_drewN (Below.refl _ _) q
theorem Quiet.refl (w : World) : Quiet w w := ⟨0, rfl⟩

set_option maxHeartbeats 1000000 in
theorem sequal (a a' : Option Addr) (n n' c c' : Nat) (l l' : List UInt8) (w : World) (hr : Rd w a n c l) (hr' : Rd w a' n' c' l') :
    Calls Tryz.prog 25 #[.slice a n c, .slice a' n' c'] w fun e w' => e = .returned (.bool (decide (l = l'))) ∧ Quiet w w' := by
  have hm := hr.hmax
  have hle := hr.hle
  have hl := hr.hlen
  have hl' := hr'.hlen
  by_cases hn : n = n'
  · subst hn
    have HL := Lib.hid hl
    have HL' := Lib.hid hl'
    by_cases h0 : n = 0
    · have e : l = l' := by rw [List.eq_nil_of_length_eq_zero (l := l) (by omega), List.eq_nil_of_length_eq_zero (l := l') (by omega)]
      subst h0
      clear hl hl' hr hr' hm hle
      go_enter Tryz.func25, Tryz.ntmps25
      go_wp2_with fail
      go_loopw [13] (fun i wr => i = .int .i64 0 ∧ w = wr) (fun _ _ => 0)
      case atStart => exact ⟨rfl, rfl⟩
      case round =>
        obtain ⟨rfl, rfl⟩ := hrel
        go_wp2_with fail
        go_ret
        exact ⟨one (vbool (by simp [e])), 0, rfl⟩
    · obtain ⟨b, off, rfl, hlt, hc⟩ := hr.lt_of h0
      obtain ⟨b', off', rfl, hlt', hc'⟩ := hr'.lt_of h0
      have HC := Lib.hid hc
      have HC' := Lib.hid hc'
      clear hl hl' hr hr' hc hc'
      go_enter Tryz.func25, Tryz.ntmps25
      go_wp2_with fail
      go_loopw [13] (fun i wr => ∃ k q : Nat, i = .int .i64 k ∧ k ≤ n ∧ Hid (l.take k = l'.take k) ∧ wr = w.drewN q) (fun i _ => n - (intOf i).toNat)
      case atStart => exact ⟨0, 0, rfl, Nat.zero_le _, Lib.hid rfl, rfl⟩
      case round =>
        obtain ⟨k, q, rfl, hk, HT, rfl⟩ := hrel
        by_cases hkn : k < n
        · have c1 : w.cell? ⟨b, off + k, none⟩ = some (B (l.getD k 0)) := HC.out k hkn
          have c2 : w.cell? ⟨b', off' + k, none⟩ = some (B (l'.getD k 0)) := HC'.out k hkn
          have hkl : k < l.length := by rw [HL.out]; exact hkn
          have hkl' : k < l'.length := by rw [HL'.out]; exact hkn
          by_cases hx : l.getD k 0 = l'.getD k 0
          · have HT2 := Lib.hid (take_snoc_eq hkl hkl' HT.out hx)
            rw [← hx] at c2
            clear hkl hkl' hx
            generalize l.getD k 0 = x at *
            unfold B at c1 c2
            go_wp2_with fail
            go_quiet (fail)
            go_wp2_with fail
            go_roundw
            case rel => exact ⟨k + 1, q + nq, by go_num, by omega, HT2, by first | rfl | rw [World.drewN_drewN]⟩
            case measure => simp [intOf]; omega
          · have e : l ≠ l' := by rintro rfl; exact hx rfl
            have hd : (((l.getD k 0).toNat : Int) != ((l'.getD k 0).toNat : Int)) = true := by
              rw [bne_iff_ne]; intro h; exact hx (UInt8.toNat_inj.1 (by omega))
            have E := Lib.hid e
            clear hkl hkl' hx e
            generalize l.getD k 0 = x at *
            generalize l'.getD k 0 = y at *
            unfold B at c1 c2
            go_wp2_with fail
            go_quiet (fail)
            go_wp2_with fail
            go_ret
            exact ⟨one (vbool (by have := E.out; simp [this])), by first | exact ⟨_, rfl⟩ | exact ⟨q + nq, by rw [World.drewN_drewN]⟩⟩
        · obtain rfl : k = n := by omega
          have e : l = l' := by
            have := HT.out
            rwa [List.take_of_length_le (by rw [HL.out]; omega), List.take_of_length_le (by rw [HL'.out]; omega)] at this
          have E := Lib.hid e
          clear e
          go_wp2_with fail
          go_ret
          exact ⟨one (vbool (by have := E.out; simp [this])), by first | exact ⟨_, rfl⟩ | exact ⟨q + nq, by rw [World.drewN_drewN]⟩⟩
  · have e : l ≠ l' := by rintro rfl; omega
    have hne : ((n : Int) == (n' : Int)) = false := by simp; omega
    clear hr hr'
    go_enter Tryz.func25, Tryz.ntmps25
    go_wp2_with fail
    go_ret
    exact ⟨one (vbool (by simp [e])), 0, rfl⟩

/-- bytes in new memory -/
theorem rd_new (w : World) (l : List UInt8) (cs : Array Value) (t : TypeId) (hc : cs = (l.map B).toArray) (hl : l.length ≤ 9223372036854775807) :
    Rd (w.alloc (.cells cs t)) (some ⟨w.heap.size, 0, none⟩) l.length l.length l := by
  subst hc
  refine ⟨rfl, Nat.le_refl _, hl, (fun h => by cases h), .inr ⟨_, 0, rfl, by simp, fun i hi => ?_⟩⟩
  rw [cell_of_row _ w.heap.size (0 + i) _ t _ (heap_alloc_new w _)]; simp [hi]
theorem Blk.rd' {w : World} {g : Nat} {L : List UInt8} (h : Blk w g L) (n : Nat) (hn : L.length = n) (hm : n ≤ 9223372036854775807) : Rd w (some ⟨g, 0, none⟩) n n L := by
  subst hn; exact h.rd hm
theorem Fr.form' {w : World} {base : Nat} {v : Value} {l : List UInt8} (h : Fr w base v l) (n : Nat) (hn : l.length = n) : ∃ a cap, v = .slice a n cap ∧ Rd w a n cap l := by
  subst hn
  obtain ⟨a, cap, hv, hr, -⟩ := h.form
  exact ⟨a, cap, hv, hr⟩
/-- bytes that the call made in place are its own -/
theorem Fr.fresh (w : World) (base : Nat) (hb : base ≤ w.heap.size) (x : UInt8) : Fr (w.alloc (.cells #[B x] 5)) base (.slice (some ⟨w.heap.size, 0, none⟩) 1 1) [x] :=
  ⟨rfl, .inr ⟨w.heap.size, 1, #[B x], rfl, hb, heap_alloc_new w _, Nat.le_refl _, by unfold maxLen; omega, rfl, rfl⟩⟩
/-- a string of bytes -/
def str (l : List UInt8) : ByteArray := ⟨l.toArray⟩
theorem str_data (l : List UInt8) : (str l).data.toList = l := rfl
theorem str_size (l : List UInt8) : (str l).size = l.length := rfl
theorem conv_rd {w : World} {a : Option Addr} {len cap : Nat} {l : List UInt8} (h : Rd w a len cap l) :
    (Go.convert 30 9 (.slice a len cap)).run Tryz.prog w = .ok (.string (str l)) w := by
  rcases a with _ | ad
  · have h1 := h.hnil rfl
    have h2 := h.hle
    have h3 := h.hlen
    obtain rfl : len = 0 := by omega
    have : l = [] := List.eq_nil_of_length_eq_zero h3
    subst this
    exact run_convert_bytes_nil w 30 5 Tryz.underlying30 Tryz.underlying5 0 cap 9 Tryz.underlying9
  · have := run_convert_bytes_back (P := Tryz.prog) w 30 9 5 ad cap l Tryz.underlying30 Tryz.underlying5 Tryz.underlying9 (by
      intro j hj
      obtain ⟨b, off, e, -, hc⟩ := h.lt_of (by have := h.hlen; omega)
      obtain rfl : ad = ⟨b, off, none⟩ := by simpa using e
      rw [Go.WideShapes.add_plain, hc j (by have := h.hlen; omega), B]
      simp [hj])
    rw [h.hlen] at this
    exact this

end Go.Proofs.YtkfhppbmnjmnoaaGreatDoor.W
