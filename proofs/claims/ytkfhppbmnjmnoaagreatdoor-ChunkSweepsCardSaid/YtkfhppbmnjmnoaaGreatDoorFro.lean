/- BYTES THAT A CONVERSION OF A STRING MADE ('[]byte(s)'): the call owns them, and may append; the model's mark of such a row lies behind all its cells. -/
import Derived.Test.YtkfhppbmnjmnoaaGreatDoorMem
import Derived.Lib.ConvBytes
import Derived.Lib.FrozenHead
set_option linter.unusedSimpArgs false
set_option linter.unusedVariables false
namespace Go.Proofs.YtkfhppbmnjmnoaaGreatDoor.W
open Go Go.ChangeShapes Go.WideShapes Go.ChangeAt Go.RowKit

/-- a row of cells stored into one whose mark lies behind its cells -/
theorem storeCells_beyond (P : Program) (g o : Nat) (t : TypeId) (fz : Nat × Nat) : ∀ (vs : List Value) (i : Nat) (cur : Array Value) (w : World), w.heap[g]? = some (.cells cur t fz) → cur.size ≤ fz.1 → o + i + vs.length ≤ cur.size → (∀ v ∈ vs, v.oneCell' = true) →
    (storeCells ⟨g, o, none⟩ vs i).run P w = .ok () (w.setRow g (cur.toList.take (o + i) ++ vs ++ cur.toList.drop (o + i + vs.length)).toArray)
  | [], i, cur, w, hg, _, _, _ => by
    simp only [storeCells, List.append_nil, List.length_nil, Nat.add_zero, List.take_append_drop, Array.toArray_toList]
    rw [setRow_self w g cur t fz hg]
    rfl
  | v :: rest, i, cur, w, hg, hfz, hl, h1 => by
    have hi : o + i < cur.size := by simp at hl; omega
    have hadd : (⟨g, o, none⟩ : Addr).add i = ⟨g, o + i, none⟩ := by unfold Addr.add; split <;> simp_all
    have hcell : w.cell? ⟨g, o + i, none⟩ = some cur[o + i] := by simp [World.cell?, hg, hi]
    have hfro : w.frozen? ⟨g, o + i, none⟩ = false := by
      obtain ⟨lo, hi'⟩ := fz
      simp only [World.frozen?, hg, Bool.and_eq_false_iff, decide_eq_false_iff_not]
      left
      simp only at hfz
      omega
    have hst : (store ((⟨g, o, none⟩ : Addr).add i) v).run P w = .ok () (w.setRow g (cur.setIfInBounds (o + i) v)) := by
      rw [hadd, run_store P w _ v _ (h1 v (by simp)), hcell]
      simp [hfro, setCell_eq_setRow w g (o + i) cur t fz v hg]
    have ih := storeCells_beyond P g o t fz rest (i + 1) (cur.setIfInBounds (o + i) v) (w.setRow g (cur.setIfInBounds (o + i) v)) (setRow_heap w g cur _ t _ hg) (by simpa using hfz) (by simp at hl ⊢; omega) (fun x hx => h1 x (by simp [hx]))
    simp only [storeCells, Sem.run_bind, hst, Result.andThen_ok, ih, setRow_setRow]
    congr 3
    have e := list_seg_step cur.toList (o + i) v rest (by simp at hl ⊢; omega)
    simpa [Array.toList_setIfInBounds, Nat.add_assoc] using e

/-- bytes that the call owns, the row's mark behind its cells -/
def FrG (w : World) (base : Nat) (v : Value) (l : List UInt8) : Prop := ∃ g cap cur fz, v = .slice (some ⟨g, 0, none⟩) l.length cap ∧ base ≤ g ∧ w.heap[g]? = some (.cells cur 5 fz) ∧ cur.size ≤ fz.1 ∧ l.length ≤ cap ∧ cap ≤ maxLen ∧ cur.size = cap ∧ cur.toList.take l.length = l.map B
/-- bytes that the call owns, made by whatever -/
def FrX (w : World) (base : Nat) (v : Value) (l : List UInt8) : Prop := Fr w base v l ∨ FrG w base v l
theorem FrX.base {w : World} {base base' : Nat} {v : Value} {l : List UInt8} (h : FrX w base v l) (hb : base' ≤ base) : FrX w base' v l := by
  rcases h with h | ⟨g, cap, cur, fz, hv, hg, r⟩
  · exact .inl (h.base hb)
  · exact .inr ⟨g, cap, cur, fz, hv, Nat.le_trans hb hg, r⟩
theorem FrX.kept {w w' : World} {base : Nat} {v : Value} {l : List UInt8} (h : FrX w base v l) (hb : Below w.heap.size w w') : FrX w' base v l := by
  rcases h with h | ⟨g, cap, cur, fz, hv, hg, hh, r⟩
  · exact .inl (h.kept hb)
  · exact .inr ⟨g, cap, cur, fz, hv, hg, by rw [hb.block g (Array.getElem?_eq_some_iff.1 hh).1]; exact hh, r⟩
theorem FrX.alloc {w : World} {base : Nat} {v : Value} {l : List UInt8} (h : FrX w base v l) (o : Obj) : FrX (w.alloc o) base v l := h.kept ((Below.refl _ _).alloc (Nat.le_refl _) _)
theorem FrX.form' {w : World} {base : Nat} {v : Value} {l : List UInt8} (h : FrX w base v l) (n : Nat) (hn : l.length = n) : ∃ a cap, v = .slice a n cap ∧ Rd w a n cap l := by
  subst hn
  rcases h with h | ⟨g, cap, cur, fz, rfl, hg, hh, hfz, hlc, hm, hs, ht⟩
  · obtain ⟨a, c, hv, hr⟩ := h.form' _ rfl
    exact ⟨a, c, hv, hr⟩
  · refine ⟨_, cap, rfl, rfl, hlc, by unfold maxLen at hm; omega, (fun h => by cases h), .inr ⟨g, 0, rfl, (Array.getElem?_eq_some_iff.1 hh).1, fun i hi => ?_⟩⟩
    rw [Nat.zero_add, cell_of_row w g i cur 5 fz hh]
    have e : (l.map B)[i]? = some (B (l.getD i 0)) := by simp [hi]
    rw [← ht, List.getElem?_take, if_pos hi] at e
    simpa using e

/-- '[]byte(s)' of a string that is no constant -/
theorem conv_frx {w : World} {ops : Array Oper} {rest : List Oper} {o : Oper} {a : Act} {Q : Exit → Act → World → Prop} (hgd : o.guard = none) (x : Operand)
    (ho : o.op = .convert 9 30 x) (s : ByteArray) (hx : a.eval x = .string s) (hs : s.size ≤ maxLen)
    (h : ∀ w' v, FrX w' w.heap.size v s.data.toList → Below w.heap.size w w' → wpList Tryz.prog ops Q rest (a.put o.dst v) w') :
    wpList Tryz.prog ops Q (o :: rest) a w := by
  have hrun := Lib.run_convert_string_bytes (P := Tryz.prog) w 9 30 5 s Tryz.underlying9 Tryz.underlying30 Tryz.underlying5
  refine wpList_plain hgd fun K hK => ?_
  unfold Oper.wp
  simp [execOp, ho, hx, hrun, Result.andThen]
  have hge := grownCap_ge w s.size 0 5
  have hle := grownCap_le_maxLen w s.size 0 5 hs
  have hsz : (Lib.bytesCells w 5 s).size = grownCap w s.size 0 5 := by
    simp [Lib.bytesCells]; omega
  have hl : s.data.toList.length = s.size := by simp
  refine hK _ _ (h _ _ (.inr ⟨w.heap.size, _, _, _, ?_, Nat.le_refl _, Lib.bytesWorld_at_new w 5 s, Nat.le_refl _, ?_, hle, hsz, ?_⟩) ?_)
  · rw [hl]
  · rw [hl]; exact hge
  · rw [hl]
    simp only [Lib.bytesCells, Array.toList_append]
    rw [List.take_append_of_le_length (by simp), List.take_of_length_le (by simp)]
    simp [B]
  · exact ⟨rfl, rfl, rfl, by rw [Lib.bytesWorld_size]; omega, fun k hk => Lib.bytesWorld_at_old w _ s k hk⟩

/-- APPEND to bytes that the call owns, made by whatever. -/
theorem append_frx {w : World} {ops : Array Oper} {rest : List Oper} {o : Oper} {a : Act} {Q : Exit → Act → World → Prop} (hgd : o.guard = none) (s x : Operand)
    (ho : o.op = .call { callee := .builtin .append, args := #[s, x], argTypes := #[30, 30] })
    (base : Nat) (v : Value) (l : List UInt8) (hs : a.eval s = v) (hown : FrX w base v l)
    (ad : Addr) (m c : Nat) (news : List UInt8) (hx : a.eval x = .slice (some ad) m c) (hr : Rd w (some ad) m c news) (hmax : l.length + m ≤ 140737488355328) (hbase : base ≤ w.heap.size)
    (h : ∀ v' w', FrX w' base v' (l ++ news) → Below base w w' → wpList Tryz.prog ops Q rest (a.put o.dst v') w') : wpList Tryz.prog ops Q (o :: rest) a w := by
  rcases hown with hown | ⟨g, cap, cur, fz, rfl, hg, hh, hfz, hlc, hm, hcs, ht⟩
  · exact append_rd hgd s x ho base v l hs hown (some ad) m c news hx hr hmax hbase (fun v' w' hf hb _ => h v' w' (.inl hf) hb)
  · obtain ⟨i0, hi, hz0, hz1, hz2⟩ := info_parts infoByte
    have hnl : (news.map B).length = m * i0.size := by rw [hz1]; simp [hr.hlen]
    have hnews : ∀ j u, (news.map B)[j]? = some u → w.cell? (ad.add j) = some u := by
      intro j u hj
      have hj' : j < news.length := by have := (List.getElem?_eq_some_iff.1 hj).1; simpa using this
      obtain ⟨b, off, e, -, hc⟩ := hr.lt_of (by have := hr.hlen; omega)
      obtain rfl : ad = ⟨b, off, none⟩ := by simpa using e
      rw [Go.WideShapes.add_plain, hc j (by have := hr.hlen; omega)]
      rw [List.getElem?_map, List.getElem?_eq_getElem hj'] at hj
      simp at hj; subst hj; simp [hj']
    have hll : (l ++ news).length = l.length + m := by rw [List.length_append, hr.hlen]
    have hml : (news.map B).length = m := by simp [hr.hlen]
    by_cases hroom : l.length + m ≤ cap
    · have hf := run_firstCells_some (P := Tryz.prog) w i0.size m ad m c (news.map B) hnl hnews
      have hst := storeCells_beyond Tryz.prog g (l.length * i0.size) 5 fz (news.map B) 0 cur w hh hfz (by rw [hz1, hml]; omega) (B_one news)
      simp only [Nat.add_zero] at hst
      have hrun : (Builtin.append_ #[30, 30] o.type #[.slice (some ⟨g, 0, none⟩) l.length cap, .slice (some ad) m c]).run Tryz.prog w =
          .ok (.slice (some ⟨g, 0, none⟩) (l.length + m) cap) (w.setRow g (cur.toList.take (l.length * i0.size) ++ news.map B ++ cur.toList.drop (l.length * i0.size + (news.map B).length)).toArray) := by
        simp only [List.length_map] at hst
        simp [Builtin.append_, run_underlying Tryz.underlying30, sizeOf, typeInfo, hi, Builtin.lenOf, hroom, hf, Addr.add_lit, hst]
      refine wpList_plain hgd fun K hK => ?_
      unfold Oper.wp
      simp [execOp, ho, resolve, invoke, builtin, hs, hx, hrun, Result.andThen]
      rw [← hll]
      refine hK _ _ (h _ _ (.inr ⟨g, cap, _, fz, rfl, hg, setRow_heap w g _ _ _ _ hh, ?_, ?_, hm, ?_, ?_⟩) ((Upd.setRow w g _).below hg))
      · simp [hz1, hr.hlen]; omega
      · omega
      · simp [hz1, hr.hlen]; omega
      · rw [List.map_append]
        simp only [hz1, Nat.mul_one, ht]
        rw [← List.append_assoc]
        exact List.take_left' (by simp)
    · have holds : ∀ j u, (l.map B)[j]? = some u → w.cell? ((⟨g, 0, none⟩ : Addr).add j) = some u := by
        intro j u hu
        have hj : j < l.length := by have := (List.getElem?_eq_some_iff.1 hu).1; simpa using this
        rw [Go.WideShapes.add_plain, Nat.zero_add, cell_of_row w g j cur 5 fz hh]
        rw [← ht, List.getElem?_take, if_pos hj] at hu
        simpa using hu
      have hrun := run_append_grow (P := Tryz.prog) w 30 o.type 5 i0 (.int .u8 0) Tryz.underlying30 hi hz0 ⟨g, 0, none⟩ l.length cap (l.map B) (by rw [hz1]; simp) holds ad m c (news.map B) hnl hnews (by omega) (by omega) (growslice_fits (by omega) (by rw [hz2]; omega))
      refine wpList_plain hgd fun K hK => ?_
      unfold Oper.wp
      simp [execOp, ho, resolve, invoke, builtin, hs, hx, hrun, Result.andThen]
      have hge := grownCap_ge w (l.length + m) cap 5
      have hcm : grownCap w (l.length + m) cap 5 ≤ maxLen := grownCap_le_maxLen w (l.length + m) cap 5 (by unfold maxLen; omega)
      rw [← hll]
      refine hK _ _ (h _ _ (.inl ⟨by simp, .inr ⟨w.heap.size, _, _, rfl, hbase, heap_alloc_new w.drew _, ?_, ?_, ?_, ?_⟩⟩) ((Below.refl _ _).drew.alloc (by simpa using hbase) _))
      · rw [hll]; exact hge
      · rw [hll]; exact hcm
      · simp [size_zeroCells, hr.hlen, Value.cells]; omega
      · simp only [Array.toList_append, List.append_assoc]
        rw [← List.append_assoc, ← List.map_append]
        rw [List.take_left' (by simp)]

end Go.Proofs.YtkfhppbmnjmnoaaGreatDoor.W
