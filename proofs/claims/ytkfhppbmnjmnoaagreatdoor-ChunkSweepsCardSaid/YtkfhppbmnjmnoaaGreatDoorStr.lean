/- LISTS OF STRINGS: as structs of one cell; what a sort makes of them -/
import Derived.Test.YtkfhppbmnjmnoaaGreatDoorLs
set_option linter.unusedSimpArgs false
set_option linter.unusedVariables false
namespace Go.Proofs.YtkfhppbmnjmnoaaGreatDoor.W
open Go Go.ChangeShapes Go.WideShapes Go.ChangeAt Go.RowKit

@[reducible] def strE : El ByteArray := ⟨32, 9, 1, 16, .string ⟨#[]⟩, fun s => [.string s], fun _ s => s.size ≤ maxLen⟩
theorem strOk : strE.Ok Tryz.prog where
  und := Tryz.underlying32
  info := by kernel_rfl
  zs := rfl
  pos := by decide
  len := fun _ => rfl
  one := fun s v hv => by simp at hv; subst hv; rfl
  mono := fun _ _ _ h _ => h
  small := by decide
theorem str_fill (s : ByteArray) : Instr.fill (fun i => some (i * strE.k, strE.k)) ((Array.range (1 * strE.k)).map (strE.z.cells[· % strE.z.cells.size]!)) [(0, .string s)] = some #[.string s] := by kernel_rfl
theorem str_row {w : World} {g : Nat} {s : ByteArray} (hr : Row w g 9 [.string s]) (hs : s.size ≤ maxLen) : Ls strE w (some ⟨g, 0, none⟩) 1 1 [s] := by
  refine ⟨rfl, Nat.le_refl _, by omega, by simpa using hs, (fun h => by cases h), .inr ⟨g, 0, rfl, hr.lt, fun i x hi j v hj => ?_⟩⟩
  have hi1 : i < 1 := (List.getElem?_eq_some_iff.1 hi).1
  have hj1 : j < 1 := (List.getElem?_eq_some_iff.1 hj).1
  obtain rfl : i = 0 := by omega
  obtain rfl : j = 0 := by omega
  simp at hi hj
  subst hi hj
  show w.cell? ⟨g, 0 + 0 * 1 + 0, none⟩ = _
  rw [hr.cellV]
  rfl
theorem build_str {w : World} {ops : Array Oper} {rest : List Oper} {o : Oper} {a : Act} {Q : Exit → Act → World → Prop} (hgd : o.guard = none) (x : Operand)
    (ho : o.op = .buildSlice 32 1 #[(0, x)]) (s : ByteArray) (hx : a.eval x = .string s) (hs : s.size ≤ maxLen)
    (h : ∀ w', Ls strE w' (some ⟨w.heap.size, 0, none⟩) 1 1 [s] → Below w.heap.size w w' → wpList Tryz.prog ops Q rest (a.put o.dst (.slice (some ⟨w.heap.size, 0, none⟩) 1 1)) w') : wpList Tryz.prog ops Q (o :: rest) a w := by
  obtain ⟨i0, hi, hz0, hz1, hz2⟩ := info_parts strOk.info
  refine wpList_buildSlice hgd 32 9 1 _ ho #[.string s] i0 _ strOk.und hi hz0 (by rw [hz1]; decide) (by rw [hz1]; decide) (by rw [hz1]; simp only [List.map_toArray, List.map_cons, List.map_nil, hx]; exact str_fill s) ?_
  exact h _ (str_row (Row.new _ _ _) hs) ((Below.refl _ _).alloc (Nat.le_refl _) _)
def byL (L : List ByteArray) : List (List UInt8) := L.map (·.data.toList)
def ofL (ss : List (List UInt8)) : List ByteArray := ss.map (fun s => ⟨s.toArray⟩)
theorem ofL_byL (L : List ByteArray) : ofL (byL L) = L := by
  unfold ofL byL
  rw [List.map_map]
  have : ((fun s => (⟨s.toArray⟩ : ByteArray)) ∘ fun b : ByteArray => b.data.toList) = id := by funext b; simp
  rw [this, List.map_id]
theorem ofL_len (ss : List (List UInt8)) : (ofL ss).length = ss.length := by simp [ofL]
theorem byL_len (L : List ByteArray) : (byL L).length = L.length := by simp [byL]
def sortM (L : List ByteArray) : List ByteArray := ofL ((byL L).mergeSort fun x y => decide (x ≤ y))
theorem sortM_len (L : List ByteArray) : (sortM L).length = L.length := by unfold sortM; rw [ofL_len, List.length_mergeSort, byL_len]
/-- what slices.Sort makes of strings that the call owns -/
abbrev SortP (f : FuncId) : Prop := ∀ (base : Nat) (v : Value) (L : List ByteArray) (w : World), LsO strE w base v L → L.length ≤ 1000000 → base ≤ w.heap.size → Calls Tryz.prog f #[v] w fun e w' => e = .returned (.tuple #[]) ∧ LsO strE w' base v (sortM L) ∧ Below base w w'
end Go.Proofs.YtkfhppbmnjmnoaaGreatDoor.W
