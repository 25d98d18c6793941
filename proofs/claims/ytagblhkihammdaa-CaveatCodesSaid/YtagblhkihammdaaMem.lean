/- BYTES IN MEMORY: a slice that reads as a list of bytes (Rd); a slice that a call made and owns (Fr); what appends, copies and slicings make of them. -/
import Derived.Test.YtagblhkihammdaaBase
import Derived.Laws.AppendOwnNone
import Derived.Laws.CopyOwn
import Derived.Laws.OwnMore
import Derived.Lib.AppendStr
namespace Go.Proofs.Ytagblhkihammdaa.W
open Go.ChangeShapes Go.WideShapes Go.ChangeAt Go.RowKit

/-- a byte as a cell -/
def B (x : UInt8) : Value := .int .u8 (x.toNat : Int)
theorem B_one (l : List UInt8) : ∀ u ∈ l.map B, u.oneCell' = true := by
  intro u hu
  obtain ⟨x, -, rfl⟩ := List.mem_map.1 hu
  rfl

/-- A slice that reads as the bytes l. -/
structure Rd (w : World) (a : Option Addr) (len cap : Nat) (l : List UInt8) : Prop where
  hlen : l.length = len
  hle : len ≤ cap
  hmax : cap ≤ 9223372036854775807
  hnil : a = none → cap = 0
  hcells : len = 0 ∨ ∃ b off, a = some ⟨b, off, none⟩ ∧ b < w.heap.size ∧ ∀ i, i < len → w.cell? ⟨b, off + i, none⟩ = some (B (l.getD i 0))

theorem Rd.mono {w w' : World} {a : Option Addr} {len cap : Nat} {l : List UInt8} (h : Rd w a len cap l) (hb : Below w.heap.size w w') : Rd w' a len cap l := by
  obtain ⟨h1, h2, h3, h4, h5⟩ := h
  refine ⟨h1, h2, h3, h4, ?_⟩
  rcases h5 with h5 | ⟨b, off, rfl, hlt, hc⟩
  · exact .inl h5
  · right
    refine ⟨b, off, rfl, Nat.lt_of_lt_of_le hlt hb.size, fun i hi => ?_⟩
    rw [hb.cell (p := ⟨b, off + i, none⟩) hlt]; exact hc i hi
theorem Rd.lt_of {w : World} {a : Option Addr} {len cap : Nat} {l : List UInt8} (h : Rd w a len cap l) (hn : len ≠ 0) :
    ∃ b off, a = some ⟨b, off, none⟩ ∧ b < w.heap.size ∧ ∀ i, i < len → w.cell? ⟨b, off + i, none⟩ = some (B (l.getD i 0)) := h.hcells.resolve_left hn
/-- nil reads as no bytes -/
theorem Rd_nil (w : World) : Rd w none 0 0 [] := ⟨rfl, by omega, by omega, fun _ => rfl, .inl rfl⟩

theorem getD_map_int (zs : List Int) (i : Nat) (hz : ∀ n ∈ zs, (Lit.int .u8 n).wf = true) (hi : i < zs.length) :
    ((((zs.map fun n => UInt8.ofNat n.toNat).getD i 0).toNat : Nat) : Int) = zs.getD i 0 := by
  have h1 := bd8 (hz (zs[i]) (List.getElem_mem hi))
  simp [hi, UInt8.toNat_ofNat']
  omega
/-- a slice of bytes that came in reads as bytes -/
theorem Rd.of_row {w : World} {a : Option Addr} {len cap : Nat} {zs : List Int} (h : IsRow .u8 w a len cap zs) :
    Rd w a len cap ((zs.take len).map fun n => UInt8.ofNat n.toNat) := by
  have hs := Sl.of_row h
  obtain ⟨⟨h1, h2, h3, h4⟩, h5⟩ := hs
  have hmax : cap ≤ 9223372036854775807 ∧ (a = Option.none → cap = 0) := by
    rcases h with ⟨rfl, rfl, rfl, rfl⟩ | ⟨x, rfl, hl, hm, -⟩
    · exact ⟨by omega, fun _ => rfl⟩
    · unfold maxLen at hm; exact ⟨by omega, fun h => by cases h⟩
  refine ⟨by simpa using h1, h5, hmax.1, hmax.2, ?_⟩
  rcases h4 with h4 | ⟨b, off, rfl, hlt, hc⟩
  · exact .inl h4
  · right
    refine ⟨b, off, rfl, hlt, fun i hi => ?_⟩
    rw [hc i hi, B, getD_map_int _ _ h3 (by omega)]

/-- A slice that the call made, and owns from block number base on: its bytes. -/
def Fr (w : World) (base : Nat) (v : Value) (l : List UInt8) : Prop := w.ownsRow base 5 1 v l.length (l.map B)

theorem Fr.nil (w : World) (base : Nat) : Fr w base (.slice none 0 0) [] := World.ownsRow_nil _ _ _ _
theorem Fr.kept {w w' : World} {base : Nat} {v : Value} {l : List UInt8} (h : Fr w base v l) (hb : Below w.heap.size w w') : Fr w' base v l := by
  have hlt := World.ownsRow.lt h
  obtain ⟨h1, h2⟩ := h
  refine ⟨h1, ?_⟩
  rcases h2 with h2 | ⟨g, cap, cur, rfl, hg, hh, r⟩
  · exact .inl h2
  · exact .inr ⟨g, cap, cur, rfl, hg, by rw [hb.block g (hlt g rfl).2]; exact hh, r⟩
theorem Fr.alloc {w : World} {base : Nat} {v : Value} {l : List UInt8} (h : Fr w base v l) (o : Obj) : Fr (w.alloc o) base v l := World.ownsRow.alloc h o
theorem Fr.base {w : World} {base base' : Nat} {v : Value} {l : List UInt8} (h : Fr w base v l) (hb : base' ≤ base) : Fr w base' v l := by
  obtain ⟨h1, h2⟩ := h
  refine ⟨h1, ?_⟩
  rcases h2 with h2 | ⟨g, cap, cur, rfl, hg, r⟩
  · exact .inl h2
  · exact .inr ⟨g, cap, cur, rfl, by omega, r⟩
/-- what it is, and that it reads as its bytes -/
theorem Fr.form {w : World} {base : Nat} {v : Value} {l : List UInt8} (h : Fr w base v l) :
    ∃ a cap, v = .slice a l.length cap ∧ Rd w a l.length cap l ∧ (a = none ∨ ∃ g, a = some ⟨g, 0, none⟩ ∧ base ≤ g ∧ g < w.heap.size) := by
  have hlt := World.ownsRow.lt h
  have hc := fun g hg => World.ownsRow.cells h (g := g) hg
  obtain ⟨h1, h2⟩ := h
  rcases h2 with ⟨rfl, h0⟩ | ⟨g, cap, cur, rfl, hg, hh, hn, hm, r⟩
  · rw [h0]
    exact ⟨none, 0, rfl, ⟨h0, by omega, by omega, fun _ => rfl, .inl rfl⟩, .inl rfl⟩
  · refine ⟨_, cap, rfl, ⟨rfl, hn, by unfold maxLen at hm; omega, (fun h => by cases h), ?_⟩, .inr ⟨g, rfl, hg, (hlt g rfl).2⟩⟩
    right
    refine ⟨g, 0, rfl, (hlt g rfl).2, fun i hi => ?_⟩
    have h3 := hc g rfl i (B (l.getD i 0)) (by simp [hi])
    rw [Go.WideShapes.add_plain] at h3; exact h3

theorem infoByte : (Try.prog.info? 5).map (fun i => (i.zero, i.size, i.bytes)) = some (some (.int .u8 0), 1, 1) := by kernel_rfl
theorem infoByte1 : (Try.prog.info? 5).map (·.size) = some 1 := by kernel_rfl

/-- APPEND of what reads as bytes to what the call owns. -/
theorem append_rd {w : World} {ops : Array Oper} {rest : List Oper} {o : Oper} {a : Act} {Q : Exit → Act → World → Prop} (hgd : o.guard = none) (s x : Operand)
    (ho : o.op = .call { callee := .builtin .append, args := #[s, x], argTypes := #[25, 25] })
    (base : Nat) (v : Value) (l : List UInt8) (hs : a.eval s = v) (hown : Fr w base v l)
    (sa : Option Addr) (m c : Nat) (news : List UInt8) (hx : a.eval x = .slice sa m c) (hr : Rd w sa m c news) (hmax : l.length + m ≤ 140737488355328) (hbase : base ≤ w.heap.size)
    (h : ∀ v' w', Fr w' base v' (l ++ news) → Below base w w' → w.grownBy w' v.ownBlock → wpList Try.prog ops Q rest (a.put o.dst v') w') : wpList Try.prog ops Q (o :: rest) a w := by
  obtain ⟨i0, hi, hz0, hz1, hz2⟩ := info_parts infoByte
  have hlt := World.ownsRow.lt hown
  rcases sa with _ | ad
  · have hc0 : c = 0 := hr.hnil rfl
    have hm0 : m = 0 := by have := hr.hle; omega
    subst hc0 hm0
    have hn : news = [] := List.eq_nil_of_length_eq_zero hr.hlen
    subst hn
    exact wpList_append_own_none hgd s x 25 ho base 5 i0 1 Try.underlying25 hi v l.length (l.map B) hs hown hx (h v w (by simpa using hown) (Below.refl _ _) (World.grownBy.refl _ _))
  · refine wpList_append_own w hgd s x 25 ho base 5 i0 (.int .u8 0) 1 1 Try.underlying25 hi hz0 hz1 hz2 rfl (by decide) v l.length (l.map B) hs hown ad m c (news.map B) hx (by simp [hr.hlen]) ?_ (B_one news) (by unfold maxLen; omega) (by omega) hbase ?_
    · intro j u hj
      have hj' : j < news.length := by
        have := (List.getElem?_eq_some_iff.1 hj).1; simpa using this
      obtain ⟨b, off, e, -, hc⟩ := hr.lt_of (by have := hr.hlen; omega)
      obtain rfl : ad = ⟨b, off, none⟩ := by simpa using e
      rw [Go.WideShapes.add_plain, hc j (by have := hr.hlen; omega)]
      rw [List.getElem?_map, List.getElem?_eq_getElem hj'] at hj
      simp at hj; subst hj; simp [hj']
    · intro v' w' hown' hg _
      refine h v' w' ?_ ((Below.refl _ _).grown hg hbase (fun k hk => (hlt k hk).1)) hg
      unfold Fr; rw [List.length_append, List.map_append, hr.hlen]; exact hown'

/-- APPEND of a string's bytes to what the call owns. -/
theorem append_str {w : World} {ops : Array Oper} {rest : List Oper} {o : Oper} {a : Act} {Q : Exit → Act → World → Prop} (hgd : o.guard = none) (s x : Operand)
    (ho : o.op = .call { callee := .builtin .append, args := #[s, x], argTypes := #[25, 9] })
    (base : Nat) (v : Value) (l : List UInt8) (hs : a.eval s = v) (hown : Fr w base v l) (t : ByteArray) (hx : a.eval x = .string t)
    (hmax : l.length + t.size ≤ 140737488355328) (hbase : base ≤ w.heap.size)
    (h : ∀ v' w', Fr w' base v' (l ++ t.data.toList) → Below base w w' → w.grownBy w' v.ownBlock → wpList Try.prog ops Q rest (a.put o.dst v') w') : wpList Try.prog ops Q (o :: rest) a w := by
  obtain ⟨i0, hi, hz0, hz1, hz2⟩ := info_parts infoByte
  have hlt := World.ownsRow.lt hown
  refine Lib.wpList_append_own_string w hgd s x 25 9 ho base 5 i0 Try.underlying25 Try.underlying9 hi hz0 hz1 hz2 v l.length (l.map B) hs hown t hx (by unfold maxLen; omega) hmax hbase ?_
  intro v' w' hown' hg _
  refine h v' w' ?_ ((Below.refl _ _).grown hg hbase (fun k hk => (hlt k hk).1)) hg
  unfold Fr; rw [List.length_append, List.map_append]; exact hown'

end Go.Proofs.Ytagblhkihammdaa.W
