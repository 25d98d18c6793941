/- LISTS OF STRUCTS that a call owns, in a row that holds no byte: so no slice of bytes lies in it, and a reader stays where they are appended to. -/
import Derived.Test.YtkfhppbmnjmnoaaGreatDoorLs
import Derived.Test.YtkfhppbmnjmnoaaGreatDoorPackR5
set_option linter.unusedSimpArgs false
set_option linter.unusedVariables false
namespace Go.Proofs.YtkfhppbmnjmnoaaGreatDoor.W
open Go Go.ChangeShapes Go.WideShapes Go.ChangeAt Go.RowKit

def NoB (cs : List Value) : Prop := ∀ x : UInt8, B x ∉ cs
theorem NoB.append {a b : List Value} (ha : NoB a) (hb : NoB b) : NoB (a ++ b) := fun x hx => (List.mem_append.1 hx).elim (ha x) (hb x)
theorem NoB.take {a : List Value} (h : NoB a) (n : Nat) : NoB (a.take n) := fun x hx => h x (List.mem_of_mem_take hx)
theorem NoB.drop {a : List Value} (h : NoB a) (n : Nat) : NoB (a.drop n) := fun x hx => h x (List.mem_of_mem_drop hx)
/-- structs without a byte among their cells, of a type that is no reader -/
structure El.Nb {α : Type} (E : El α) : Prop where
  z : NoB E.z.cells.toList
  c : ∀ x, NoB (E.cells x)
  p : E.eT ≠ 99999
variable {α : Type} {E : El α}
theorem NoB.flat (h : E.Nb) (L : List α) : NoB (flatE E L) := by
  intro x hx
  obtain ⟨c, -, hc⟩ := List.mem_flatMap.1 hx
  exact h.c c x hc
theorem NoB.zeros (h : E.Nb) (hz : 0 < E.z.cells.size) (n : Nat) : NoB (Builtin.zeroCells E.z.cells n).toList := by
  intro x hx
  simp only [Builtin.zeroCells, Array.toList_map, List.mem_map] at hx
  obtain ⟨i, -, hi⟩ := hx
  have hlt : i % E.z.cells.size < E.z.cells.size := Nat.mod_lt _ hz
  rw [getElem!_pos E.z.cells _ hlt] at hi
  exact h.z x (by rw [← hi]; simp)
/-- structs that the call owns, in a row without a byte -/
def LsN (E : El α) (w : World) (base : Nat) (v : Value) (L : List α) : Prop := (v = .slice none 0 0 ∧ L = []) ∨
  ∃ g cap cur, v = .slice (some ⟨g, 0, none⟩) L.length cap ∧ base ≤ g ∧ w.heap[g]? = some (.cells cur E.eT (0, 0)) ∧ L.length ≤ cap ∧ cap ≤ maxLen ∧ cur.size = cap * E.k ∧ cur.toList.take (L.length * E.k) = flatE E L ∧ NoB cur.toList
theorem LsN.lso {w : World} {base : Nat} {v : Value} {L : List α} (hE : E.Ok Tryz.prog) (h : LsN E w base v L) : LsO E w base v L := by
  rcases h with ⟨rfl, rfl⟩ | ⟨g, cap, cur, rfl, hg, hh, h1, h2, h3, h4, -⟩
  · exact LsO.nil _ _
  · exact ⟨by rw [flatE_len hE], .inr ⟨g, cap, cur, rfl, hg, hh, h1, h2, h3, h4⟩⟩
theorem LsN.nil (w : World) (base : Nat) : LsN E w base (.slice none 0 0) [] := .inl ⟨rfl, rfl⟩
theorem LsN.base {w : World} {base base' : Nat} {v : Value} {L : List α} (h : LsN E w base v L) (hb : base' ≤ base) : LsN E w base' v L := by
  rcases h with h | ⟨g, cap, cur, hv, hg, r⟩
  · exact .inl h
  · exact .inr ⟨g, cap, cur, hv, Nat.le_trans hb hg, r⟩
theorem LsN.kept {w w' : World} {base : Nat} {v : Value} {L : List α} (h : LsN E w base v L) (hb : Below w.heap.size w w') : LsN E w' base v L := by
  rcases h with h | ⟨g, cap, cur, hv, hg, hh, r⟩
  · exact .inl h
  · exact .inr ⟨g, cap, cur, hv, hg, by rw [hb.block g (Array.getElem?_eq_some_iff.1 hh).1]; exact hh, r⟩
/-- they stay where a reader is written -/
theorem LsN.rp {w w' : World} {base p : Nat} {v : Value} {L : List α} {l : List UInt8} {e : Int} (hb : E.Nb) (h : LsN E w base v L) (hp : RP w p l e) (hu : Gw p w w') : LsN E w' base v L := by
  rcases h with h | ⟨g, cap, cur, hv, hg, hh, r⟩
  · exact .inl h
  · obtain ⟨a2, cap2, hh2, -⟩ := hp.ex
    have hgp : g ≠ p := by
      rintro rfl
      rw [hh] at hh2
      simp at hh2
      exact hb.p hh2.2
    exact .inr ⟨g, cap, cur, hv, hg, by rw [hu.block g (Array.getElem?_eq_some_iff.1 hh).1 hgp]; exact hh, r⟩
theorem LsN.rr {w w' : World} {base p : Nat} {v : Value} {L : List α} {l : List UInt8} {e : Int} (hrr : E.eT ≠ 99999) (hb : E.Nb) (h : LsN E w base v L) (hp : RR w p l e) (hu : Gw p w w') : LsN E w' base v L := by
  rcases h with h | ⟨g, cap, cur, hv, hg, hh, r⟩
  · exact .inl h
  · obtain ⟨a2, cap2, hh2, -⟩ := hp.ex
    have hgp : g ≠ p := by
      rintro rfl
      rw [hh] at hh2
      simp at hh2
      exact hrr hh2.2
    exact .inr ⟨g, cap, cur, hv, hg, by rw [hu.block g (Array.getElem?_eq_some_iff.1 hh).1 hgp]; exact hh, r⟩
/-- a reader stays where they alone are written -/
theorem RP.ownL {w w' : World} {p base : Nat} {v : Value} {L : List α} {l : List UInt8} {e : Int} (hb : E.Nb) (h : RP w p l e) (hv : LsN E w base v L) (hg : w.grownBy w' v.ownBlock) : RP w' p l e := by
  rcases hv with ⟨rfl, -⟩ | ⟨g, cap, cur, rfl, -, hh, -, -, -, -, hnb⟩
  · exact h.mono ⟨hg.os, hg.tape, hg.output, hg.size, fun k hk => hg.block k hk (by simp [Value.ownBlock])⟩
  · have hlt := h.lt
    obtain ⟨a, c, hh2, hr⟩ := h.ex
    have hgp : p ≠ g := by
      rintro rfl
      rw [hh] at hh2
      simp at hh2
      exact hb.p hh2.2
    have hgw : Gw g w w' := ⟨hg.os, hg.tape, hg.output, hg.size, fun k hk hkg => hg.block k hk (by simp [Value.ownBlock]; exact hkg)⟩
    exact ⟨⟨a, c, by rw [hgw.block p hlt hgp]; exact hh2, hr.gwp hgw (hr.apart hh (fun x hx => hnb x hx))⟩, h.small, h.hnone⟩
theorem Rd.ownL {w w' : World} {base : Nat} {v : Value} {L : List α} {a : Option Addr} {n c : Nat} {l : List UInt8} (h : Rd w a n c l) (hv : LsN E w base v L) (hg : w.grownBy w' v.ownBlock) : Rd w' a n c l := by
  rcases hv with ⟨rfl, -⟩ | ⟨g, cap, cur, rfl, -, hh, -, -, -, -, hnb⟩
  · exact h.mono ⟨hg.os, hg.tape, hg.output, hg.size, fun k hk => hg.block k hk (by simp [Value.ownBlock])⟩
  · have hgw : Gw g w w' := ⟨hg.os, hg.tape, hg.output, hg.size, fun k hk hkg => hg.block k hk (by simp [Value.ownBlock]; exact hkg)⟩
    exact h.gwp hgw (h.apart hh (fun x hx => hnb x hx))
theorem RR.ownL {w w' : World} {p base : Nat} {v : Value} {L : List α} {l : List UInt8} {e : Int} (hrr : E.eT ≠ 99999) (hb : E.Nb) (h : RR w p l e) (hv : LsN E w base v L) (hg : w.grownBy w' v.ownBlock) : RR w' p l e := by
  rcases hv with ⟨rfl, -⟩ | ⟨g, cap, cur, rfl, -, hh, -, -, -, -, hnb⟩
  · exact h.mono ⟨hg.os, hg.tape, hg.output, hg.size, fun k hk => hg.block k hk (by simp [Value.ownBlock])⟩
  · have hlt := h.lt
    obtain ⟨a, c, hh2, hr⟩ := h.ex
    have hgp : p ≠ g := by
      rintro rfl
      rw [hh] at hh2
      simp at hh2
      exact hrr hh2.2
    have hgw : Gw g w w' := ⟨hg.os, hg.tape, hg.output, hg.size, fun k hk hkg => hg.block k hk (by simp [Value.ownBlock]; exact hkg)⟩
    exact ⟨⟨a, c, by rw [hgw.block p hlt hgp]; exact hh2, hr.gwp hgw (hr.apart hh (fun x hx => hnb x hx))⟩, h.small, h.hnone⟩
/-- a row without a byte is written: a reader stays, and so do they -/
theorem LsN.upd {w w' : World} {base g : Nat} {v : Value} {L : List α} (h : LsN E w base v L) (hu : Upd w w' g) (hg : v.ownBlock ≠ some g) : LsN E w' base v L := by
  rcases h with h | ⟨b, cap, cur, rfl, hb, hh, r⟩
  · exact .inl h
  · exact .inr ⟨b, cap, cur, rfl, hb, by rw [hu.block b (fun e => hg (by rw [e]; rfl))]; exact hh, r⟩
theorem LsN.lt {w : World} {base : Nat} {v : Value} {L : List α} (h : LsN E w base v L) : ∀ g, v.ownBlock = some g → base ≤ g ∧ g < w.heap.size := by
  rcases h with ⟨rfl, -⟩ | ⟨b, cap, cur, rfl, hb, hh, r⟩
  · intro g hg; cases hg
  · intro g hg
    have : b = g := by simpa [Value.ownBlock] using hg
    subst this
    exact ⟨hb, (Array.getElem?_eq_some_iff.1 hh).1⟩

set_option maxRecDepth 100000 in
/-- APPEND of structs to what the call owns, the row without a byte. -/
theorem append_lsn (hE : E.Ok Tryz.prog) (hN : E.Nb) {w : World} {ops : Array Oper} {rest : List Oper} {o : Oper} {a : Act} {Q : Exit → Act → World → Prop} (hgd : o.guard = none) (s x : Operand)
    (ho : o.op = .call { callee := .builtin .append, args := #[s, x], argTypes := #[E.sT, E.sT] })
    (base : Nat) (v : Value) (L : List α) (hs : a.eval s = v) (hown : LsN E w base v L)
    (b off : Nat) (m c : Nat) (M : List α) (hx : a.eval x = .slice (some ⟨b, off, none⟩) m c) (hr : Ls E w (some ⟨b, off, none⟩) m c M) (hm0 : 0 < m) (hmax : L.length + m ≤ 1000000) (hbase : base ≤ w.heap.size)
    (h : ∀ v' w', LsN E w' base v' (L ++ M) → Below base w w' → w.grownBy w' v.ownBlock → wpList Tryz.prog ops Q rest (a.put o.dst v') w') : wpList Tryz.prog ops Q (o :: rest) a w := by
  obtain ⟨i0, hi, hz0, hz1, hz2⟩ := info_parts hE.info
  have hzs : 0 < E.z.cells.size := by rw [hE.zs]; exact hE.pos
  have hsm := hE.small
  have hlM := hr.hlen
  have hnl : (flatE E M).length = m * i0.size := by rw [hz1, flatE_len hE, hlM]
  have hnews := hr.flat hE
  have hll : (L ++ M).length = L.length + m := by rw [List.length_append, hlM]
  have hge := fun old => grownCap_ge w (L.length + m) old E.eT
  have hcm := fun old => grownCap_le_maxLen w (L.length + m) old E.eT (by unfold maxLen; omega)
  have hby : (L.length + m) * i0.bytes ≤ 1000000 * 4096 := by rw [hz2]; exact Nat.mul_le_mul hmax hsm
  have hmk : ∀ n : Nat, n * E.z.cells.size = n * E.k := fun n => by rw [hE.zs]
  have fresh : ∀ (old : Nat), LsN E (w.drew.alloc (.cells ((flatE E L).toArray ++ (flatE E M).toArray ++ Builtin.zeroCells E.z.cells (grownCap w (L.length + m) old E.eT - (L.length + m))) E.eT)) base (.slice (some ⟨w.heap.size, 0, none⟩) (L.length + m) (grownCap w (L.length + m) old E.eT)) (L ++ M) := by
    intro old
    refine .inr ⟨w.heap.size, _, _, by rw [hll], hbase, heap_alloc_new w.drew _, by rw [hll]; exact hge old, hcm old, ?_, ?_, ?_⟩
    · have := hge old
      simp only [Array.size_append, List.size_toArray, size_zeroCells, flatE_len hE, hlM, hmk]
      rw [← Nat.add_mul, ← Nat.add_mul]
      congr 1
      omega
    · simp only [Array.toList_append, List.append_assoc]
      rw [← List.append_assoc, ← flatE_app]
      exact List.take_left' (by rw [flatE_len hE])
    · simp only [Array.toList_append, List.append_assoc]
      exact (NoB.flat hN L).append ((NoB.flat hN M).append (NoB.zeros hN hzs _))
  rcases hown with ⟨rfl, rfl⟩ | ⟨g, cap, cur, rfl, hg, hh, hlc, hm, hcs, ht, hnb⟩
  · have hrun := run_append_nil (P := Tryz.prog) w E.sT o.type E.eT i0 _ hE.und hi hz0 ⟨b, off, none⟩ m c (flatE E M) hnl hnews hm0 (by omega) (by simp only [List.length_nil, Nat.zero_add] at hby; omega)
    have hf := fresh 0
    simp only [List.length_nil, Nat.zero_add, List.nil_append, show flatE E [] = [] from rfl] at hf hmax
    refine wpList_plain hgd fun K hK => ?_
    unfold Oper.wp
    simp [execOp, ho, resolve, invoke, builtin, hs, hx, hrun, Result.andThen]
    refine hK _ _ (h _ _ (by simpa using hf) ((Below.refl _ _).drew.alloc (by simpa using hbase) _) ⟨rfl, rfl, rfl, by simp, fun k hk _ => heap_alloc_old w.drew _ hk⟩)
  · have hlk := flatE_len hE L
    have hlkM := flatE_len hE M
    by_cases hroom : L.length + m ≤ cap
    · have hrun := run_append_room (P := Tryz.prog) w E.sT o.type E.eT i0 hE.und hi g L.length cap cur hh ⟨b, off, none⟩ m c (flatE E M) hnl hnews (flatE_one hE M) hroom (by rw [hz1, hlkM, hcs, hlM, ← Nat.add_mul]; exact Nat.mul_le_mul_right _ hroom)
      refine wpList_plain hgd fun K hK => ?_
      unfold Oper.wp
      simp [execOp, ho, resolve, invoke, builtin, hs, hx, hrun, Result.andThen]
      rw [← hll]
      have hq : (L.length + m) * E.k ≤ cap * E.k := Nat.mul_le_mul_right _ hroom
      rw [Nat.add_mul] at hq
      refine hK _ _ (h _ _ (.inr ⟨g, cap, _, rfl, hg, setRow_heap w g _ _ _ _ hh, by rw [hll]; exact hroom, hm, ?_, ?_, ?_⟩) ((Upd.setRow w g _).below hg) ⟨rfl, rfl, rfl, by simp, fun k _ hk => setRow_other w g k _ (fun e => hk (by simp [Value.ownBlock, e]))⟩)
      · simp [hz1, hlkM, hlM]; omega
      · rw [flatE_app]
        simp only [hz1, ht]
        rw [← List.append_assoc]
        exact List.take_left' (by rw [List.length_append, hlk, hlkM, List.length_append, Nat.add_mul])
      · exact (hnb.take _).append ((NoB.flat hN M).append (hnb.drop _))
    · have holds : ∀ j u, (flatE E L)[j]? = some u → w.cell? ((⟨g, 0, none⟩ : Addr).add j) = some u := by
        intro j u hu
        have hj : j < L.length * E.k := by have := (List.getElem?_eq_some_iff.1 hu).1; rwa [hlk] at this
        rw [Go.WideShapes.add_plain, Nat.zero_add, cell_of_row w g j cur E.eT _ hh]
        rw [← ht, List.getElem?_take, if_pos hj] at hu
        simpa using hu
      have hrun := run_append_grow (P := Tryz.prog) w E.sT o.type E.eT i0 _ hE.und hi hz0 ⟨g, 0, none⟩ L.length cap (flatE E L) (by rw [hz1, hlk]) holds ⟨b, off, none⟩ m c (flatE E M) hnl hnews (by omega) (by omega) (growslice_fits (by omega) (by omega))
      refine wpList_plain hgd fun K hK => ?_
      unfold Oper.wp
      simp [execOp, ho, resolve, invoke, builtin, hs, hx, hrun, Result.andThen]
      refine hK _ _ (h _ _ (by simpa using fresh cap) ((Below.refl _ _).drew.alloc (by simpa using hbase) _) ⟨rfl, rfl, rfl, by simp, fun k hk _ => heap_alloc_old w.drew _ hk⟩)
/-- BUILD of a slice of one struct -/
theorem build_ls (hE : E.Ok Tryz.prog) (hf : ∀ y, Instr.fill (fun i => some (i * E.k, E.k)) ((Array.range (1 * E.k)).map (E.z.cells[· % E.z.cells.size]!)) [(0, .agg (E.cells y).toArray)] = some (E.cells y).toArray)
    {w : World} {ops : Array Oper} {rest : List Oper} {o : Oper} {a : Act} {Q : Exit → Act → World → Prop} (hgd : o.guard = none) (x : Operand)
    (ho : o.op = .buildSlice E.sT 1 #[(0, x)]) (y : α) (hx : a.eval x = .agg (E.cells y).toArray) (hy : E.fit w y) (hk24 : E.k ≤ 1000)
    (h : ∀ w', Ls E w' (some ⟨w.heap.size, 0, none⟩) 1 1 [y] → Below w.heap.size w w' → w'.heap.size = w.heap.size + 1 → wpList Tryz.prog ops Q rest (a.put o.dst (.slice (some ⟨w.heap.size, 0, none⟩) 1 1)) w') : wpList Tryz.prog ops Q (o :: rest) a w := by
  obtain ⟨i0, hi, hz0, hz1, hz2⟩ := info_parts hE.info
  have hp := hE.pos
  refine wpList_buildSlice hgd E.sT E.eT 1 _ ho (E.cells y).toArray i0 _ hE.und hi hz0 (by rw [hz1]; omega) (by rw [hz1]; omega) (by rw [hz1]; simp only [List.map_toArray, List.map_cons, List.map_nil, hx]; exact hf y) ?_
  exact h _ (ls_new hE w y _ rfl hy) ((Below.refl _ _).alloc (Nat.le_refl _) _) (by simp)
end Go.Proofs.YtkfhppbmnjmnoaaGreatDoor.W
