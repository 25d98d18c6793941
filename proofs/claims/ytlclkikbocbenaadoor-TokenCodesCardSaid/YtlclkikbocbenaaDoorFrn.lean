/- CAVEATS that a call made and owns, in a row that holds no byte: so no slice of bytes lies in it, and a reader stays where they are appended to. -/
import Derived.Test.YtlclkikbocbenaaDoorCavK
import Derived.Test.YtlclkikbocbenaaDoorPackR5
set_option linter.unusedSimpArgs false
set_option linter.unusedVariables false
namespace Go.Proofs.YtlclkikbocbenaaDoor.W
open Go Go.ChangeShapes Go.WideShapes Go.ChangeAt Go.RowKit

def NB (cs : List Value) : Prop := ∀ x : UInt8, B x ∉ cs
theorem NB_cells (L : List Cv) : NB (cells L) := by
  intro x hx
  obtain ⟨c, -, hc⟩ := List.mem_flatMap.1 hx
  simp [Cv.cells, B] at hc
theorem NB_append {a b : List Value} (ha : NB a) (hb : NB b) : NB (a ++ b) := fun x hx => (List.mem_append.1 hx).elim (ha x) (hb x)
theorem NB_take {a : List Value} (h : NB a) (n : Nat) : NB (a.take n) := fun x hx => h x (List.mem_of_mem_take hx)
theorem NB_drop {a : List Value} (h : NB a) (n : Nat) : NB (a.drop n) := fun x hx => h x (List.mem_of_mem_drop hx)
theorem NB_zeros (n : Nat) : NB (Builtin.zeroCells (Value.agg #[.int .i64 0, .int .i64 0, .string ⟨#[]⟩]).cells n).toList := by
  intro x hx
  simp [Builtin.zeroCells, Value.cells] at hx
  obtain ⟨i, -, h⟩ := hx
  have h3 : i % 3 = 0 ∨ i % 3 = 1 ∨ i % 3 = 2 := by omega
  rcases h3 with h3 | h3 | h3 <;> (rw [h3] at h; simp [B] at h)

/-- caveats that the call owns, in a row without a byte -/
def FrN (w : World) (base : Nat) (v : Value) (L : List Cv) : Prop := (v = .slice none 0 0 ∧ L = []) ∨
  ∃ g cap cur, v = .slice (some ⟨g, 0, none⟩) L.length cap ∧ base ≤ g ∧ w.heap[g]? = some (.cells cur 49 (0, 0)) ∧ L.length ≤ cap ∧ cap ≤ maxLen ∧ cur.size = cap * 3 ∧ cur.toList.take (L.length * 3) = cells L ∧ NB cur.toList
theorem FrN.frc {w : World} {base : Nat} {v : Value} {L : List Cv} (h : FrN w base v L) : FrC w base v L := by
  rcases h with ⟨rfl, rfl⟩ | ⟨g, cap, cur, rfl, hg, hh, h1, h2, h3, h4, -⟩
  · exact FrC.nil _ _
  · exact ⟨by rw [cells_len], .inr ⟨g, cap, cur, rfl, hg, hh, h1, h2, h3, h4⟩⟩
theorem FrN.nil (w : World) (base : Nat) : FrN w base (.slice none 0 0) [] := .inl ⟨rfl, rfl⟩
theorem FrN.base {w : World} {base base' : Nat} {v : Value} {L : List Cv} (h : FrN w base v L) (hb : base' ≤ base) : FrN w base' v L := by
  rcases h with h | ⟨g, cap, cur, hv, hg, r⟩
  · exact .inl h
  · exact .inr ⟨g, cap, cur, hv, Nat.le_trans hb hg, r⟩
theorem FrN.kept {w w' : World} {base : Nat} {v : Value} {L : List Cv} (h : FrN w base v L) (hb : Below w.heap.size w w') : FrN w' base v L := by
  rcases h with h | ⟨g, cap, cur, hv, hg, hh, r⟩
  · exact .inl h
  · exact .inr ⟨g, cap, cur, hv, hg, by rw [hb.block g (Array.getElem?_eq_some_iff.1 hh).1]; exact hh, r⟩
/-- they stay where a reader is written -/
theorem FrN.rp {w w' : World} {base p : Nat} {v : Value} {L : List Cv} {l : List UInt8} {e : Int} (h : FrN w base v L) (hp : RP w p l e) (hu : Gw p w w') : FrN w' base v L := by
  rcases h with h | ⟨g, cap, cur, hv, hg, hh, r⟩
  · exact .inl h
  · obtain ⟨a2, cap2, hh2, -⟩ := hp.ex
    have hgp : g ≠ p := by
      rintro rfl
      rw [hh] at hh2
      simp at hh2
    exact .inr ⟨g, cap, cur, hv, hg, by rw [hu.block g (Array.getElem?_eq_some_iff.1 hh).1 hgp]; exact hh, r⟩
theorem FrN.rr {w w' : World} {base p : Nat} {v : Value} {L : List Cv} {l : List UInt8} {e : Int} (h : FrN w base v L) (hp : RR w p l e) (hu : Gw p w w') : FrN w' base v L := by
  rcases h with h | ⟨g, cap, cur, hv, hg, hh, r⟩
  · exact .inl h
  · obtain ⟨a2, cap2, hh2, -⟩ := hp.ex
    have hgp : g ≠ p := by
      rintro rfl
      rw [hh] at hh2
      simp at hh2
    exact .inr ⟨g, cap, cur, hv, hg, by rw [hu.block g (Array.getElem?_eq_some_iff.1 hh).1 hgp]; exact hh, r⟩
/-- a reader stays where they alone are written -/
theorem RP.own {w w' : World} {p base : Nat} {v : Value} {L : List Cv} {l : List UInt8} {e : Int} (h : RP w p l e) (hv : FrN w base v L) (hg : w.grownBy w' v.ownBlock) : RP w' p l e := by
  rcases hv with ⟨rfl, -⟩ | ⟨g, cap, cur, rfl, -, hh, -, -, -, -, hnb⟩
  · exact h.mono ⟨hg.os, hg.tape, hg.output, hg.size, fun k hk => hg.block k hk (by simp [Value.ownBlock])⟩
  · have hlt := h.lt
    obtain ⟨a, c, hh2, hr⟩ := h.ex
    have hgp : p ≠ g := by
      rintro rfl
      rw [hh] at hh2
      simp at hh2
    have hgw : Gw g w w' := ⟨hg.os, hg.tape, hg.output, hg.size, fun k hk hkg => hg.block k hk (by simp [Value.ownBlock]; exact hkg)⟩
    exact ⟨⟨a, c, by rw [hgw.block p hlt hgp]; exact hh2, hr.gwp hgw (hr.apart hh (fun x hx => hnb x hx))⟩, h.small, h.hnone⟩
theorem RR.own {w w' : World} {p base : Nat} {v : Value} {L : List Cv} {l : List UInt8} {e : Int} (h : RR w p l e) (hv : FrN w base v L) (hg : w.grownBy w' v.ownBlock) : RR w' p l e := by
  rcases hv with ⟨rfl, -⟩ | ⟨g, cap, cur, rfl, -, hh, -, -, -, -, hnb⟩
  · exact h.mono ⟨hg.os, hg.tape, hg.output, hg.size, fun k hk => hg.block k hk (by simp [Value.ownBlock])⟩
  · have hlt := h.lt
    obtain ⟨a, c, hh2, hr⟩ := h.ex
    have hgp : p ≠ g := by
      rintro rfl
      rw [hh] at hh2
      simp at hh2
    have hgw : Gw g w w' := ⟨hg.os, hg.tape, hg.output, hg.size, fun k hk hkg => hg.block k hk (by simp [Value.ownBlock]; exact hkg)⟩
    exact ⟨⟨a, c, by rw [hgw.block p hlt hgp]; exact hh2, hr.gwp hgw (hr.apart hh (fun x hx => hnb x hx))⟩, h.small, h.hnone⟩

/-- APPEND of caveats to what the call owns, the row without a byte. -/
theorem append_frn {w : World} {ops : Array Oper} {rest : List Oper} {o : Oper} {a : Act} {Q : Exit → Act → World → Prop} (hgd : o.guard = none) (s x : Operand)
    (ho : o.op = .call { callee := .builtin .append, args := #[s, x], argTypes := #[23, 23] })
    (base : Nat) (v : Value) (L : List Cv) (hs : a.eval s = v) (hown : FrN w base v L)
    (ad : Addr) (m c : Nat) (M : List Cv) (hx : a.eval x = .slice (some ad) m c) (hr : Cvs w (some ad) m c M) (hm0 : 0 < m) (hmax : L.length + m ≤ 1000000) (hbase : base ≤ w.heap.size)
    (h : ∀ v' w', FrN w' base v' (L ++ M) → Below base w w' → w.grownBy w' v.ownBlock → wpList Tryd.prog ops Q rest (a.put o.dst v') w') : wpList Tryd.prog ops Q (o :: rest) a w := by
  obtain ⟨i0, hi, hz0, hz1, hz2⟩ := info_parts infoCv
  have hlM := hr.hlen
  have hnl : (cells M).length = m * i0.size := by rw [hz1, cells_len, hlM]
  have hnews : ∀ j u, (cells M)[j]? = some u → w.cell? (ad.add j) = some u := by
    intro j u hj
    have hj' : j < M.length * 3 := by
      have := (List.getElem?_eq_some_iff.1 hj).1; rwa [cells_len] at this
    obtain ⟨b, off, e, -, hc⟩ := hr.hcells.resolve_left (by omega)
    obtain rfl : ad = ⟨b, off, none⟩ := by simpa using e
    have hq : j = j / 3 * 3 + j % 3 := by omega
    have := hc (j / 3) (by omega) (j % 3) u (by rw [← cells_at M (j / 3) (j % 3) (by omega) (by omega), ← hq]; exact hj)
    rw [Go.WideShapes.add_plain]
    rw [show off + j = off + j / 3 * 3 + j % 3 by omega]
    exact this
  have hll : (L ++ M).length = L.length + m := by rw [List.length_append, hlM]
  have hge := fun old => grownCap_ge w (L.length + m) old 49
  have hcm := fun old => grownCap_le_maxLen w (L.length + m) old 49 (by unfold maxLen; omega)
  have fresh : ∀ (old : Nat), FrN (w.drew.alloc (.cells ((cells L).toArray ++ (cells M).toArray ++ Builtin.zeroCells (Value.agg #[.int .i64 0, .int .i64 0, .string ⟨#[]⟩]).cells (grownCap w (L.length + m) old 49 - (L.length + m))) 49)) base (.slice (some ⟨w.heap.size, 0, none⟩) (L.length + m) (grownCap w (L.length + m) old 49)) (L ++ M) := by
    intro old
    refine .inr ⟨w.heap.size, _, _, by rw [hll], hbase, heap_alloc_new w.drew _, by rw [hll]; exact hge old, hcm old, ?_, ?_, ?_⟩
    · have := hge old
      simp only [Array.size_append, List.size_toArray, size_zeroCells, cells_len, hlM]
      simp [Value.cells]
      omega
    · simp only [Array.toList_append, List.append_assoc]
      rw [← List.append_assoc, ← cells_append]
      exact List.take_left' (by rw [cells_len])
    · simp only [Array.toList_append, List.append_assoc]
      exact NB_append (NB_cells L) (NB_append (NB_cells M) (NB_zeros _))
  rcases hown with ⟨rfl, rfl⟩ | ⟨g, cap, cur, rfl, hg, hh, hlc, hm, hcs, ht, hnb⟩
  · have hrun := run_append_nil (P := Tryd.prog) w 23 o.type 49 i0 _ Tryd.underlying23 hi hz0 ad m c (cells M) hnl hnews hm0 (by omega) (by rw [hz2]; simp at hmax; omega)
    have hf := fresh 0
    simp only [List.length_nil, Nat.zero_add, List.nil_append, show cells [] = [] from rfl] at hf hmax
    refine wpList_plain hgd fun K hK => ?_
    unfold Oper.wp
    simp [execOp, ho, resolve, invoke, builtin, hs, hx, hrun, Result.andThen]
    refine hK _ _ (h _ _ (by simpa using hf) ((Below.refl _ _).drew.alloc (by simpa using hbase) _) ⟨rfl, rfl, rfl, by simp, fun k hk _ => heap_alloc_old w.drew _ hk⟩)
  · by_cases hroom : L.length + m ≤ cap
    · have hrun := run_append_room (P := Tryd.prog) w 23 o.type 49 i0 Tryd.underlying23 hi g L.length cap cur hh ad m c (cells M) hnl hnews (cells_one M) hroom (by rw [hz1, cells_len, hcs, hlM]; omega)
      refine wpList_plain hgd fun K hK => ?_
      unfold Oper.wp
      simp [execOp, ho, resolve, invoke, builtin, hs, hx, hrun, Result.andThen]
      rw [← hll]
      refine hK _ _ (h _ _ (.inr ⟨g, cap, _, rfl, hg, setRow_heap w g _ _ _ _ hh, by rw [hll]; exact hroom, hm, ?_, ?_, ?_⟩) ((Upd.setRow w g _).below hg) ⟨rfl, rfl, rfl, by simp, fun k _ hk => setRow_other w g k _ (fun e => hk (by simp [Value.ownBlock, e]))⟩)
      · simp [hz1, cells_len, hlM]; omega
      · rw [cells_append]
        simp only [hz1, ht]
        rw [← List.append_assoc]
        exact List.take_left' (by rw [List.length_append, cells_len, cells_len, List.length_append]; omega)
      · exact NB_append (NB_take hnb _) (NB_append (NB_cells M) (NB_drop hnb _))
    · have holds : ∀ j u, (cells L)[j]? = some u → w.cell? ((⟨g, 0, none⟩ : Addr).add j) = some u := by
        intro j u hu
        have hj : j < L.length * 3 := by have := (List.getElem?_eq_some_iff.1 hu).1; rwa [cells_len] at this
        rw [Go.WideShapes.add_plain, Nat.zero_add, cell_of_row w g j cur 49 _ hh]
        rw [← ht, List.getElem?_take, if_pos hj] at hu
        simpa using hu
      have hrun := run_append_grow (P := Tryd.prog) w 23 o.type 49 i0 _ Tryd.underlying23 hi hz0 ⟨g, 0, none⟩ L.length cap (cells L) (by rw [hz1, cells_len]) holds ad m c (cells M) hnl hnews (by omega) (by omega) (growslice_fits (by omega) (by rw [hz2]; omega))
      refine wpList_plain hgd fun K hK => ?_
      unfold Oper.wp
      simp [execOp, ho, resolve, invoke, builtin, hs, hx, hrun, Result.andThen]
      refine hK _ _ (h _ _ (by simpa using fresh cap) ((Below.refl _ _).drew.alloc (by simpa using hbase) _) ⟨rfl, rfl, rfl, by simp, fun k hk _ => heap_alloc_old w.drew _ hk⟩)

end Go.Proofs.YtlclkikbocbenaaDoor.W
