/- CONTRACTS of layer 2 (pack): what writes bytes. CONTRACTS of layer 2 (pack): what writes bytes, the second part. CONTRACTS of layer 2 (pack): the reference's writing; slices.Clone, slices.Equal of bytes. -/
import Derived.Test.YtkfhppbmnjmnoaaGreatDoorMem
import Derived.Test.YtkfhppbmnjmnoaaGreatDoorPackP
import Derived.Deep.QuietTactic
import Derived.BigQuiet
set_option linter.unusedSimpArgs false
set_option linter.unusedVariables false
namespace Go.Proofs.YtkfhppbmnjmnoaaGreatDoor.W
open Go.ChangeShapes Go.WideShapes Go.ChangeAt Go.RowKit
open Go.Proofs.YtkfhppbmnjmnoaaGreatDoor.P (mk lo hi enc tl gr up)


theorem splice_zeros (l : List UInt8) (n len : Nat) (h : l.length = len) : splice (List.replicate (len + n) 0) 0 l = l ++ List.replicate n 0 := by
  subst h; simp [splice]

theorem splice_set (L : List UInt8) (p : Nat) (done : List UInt8) (x : UInt8) (h : p + 1 + done.length ≤ L.length) : (splice L (p + 1) done).set p x = splice L p (x :: done) := by
  unfold splice
  rw [List.set_append]
  have h1 : (L.take (p + 1)).length = p + 1 := by simp; omega
  rw [if_pos (by omega)]
  have h2 : (L.take (p + 1)).set p x = L.take p ++ [x] := by
    rw [List.take_succ_eq_append_getElem (by omega), List.set_append_right]
    · rw [List.length_take, show p - min p L.length = 0 by omega]; rfl
    · rw [List.length_take]; omega
  rw [h2, List.append_assoc]
  congr 1
  simp only [List.cons_append, List.nil_append, List.length_cons]
  congr 3; omega
theorem splice_nil (L : List UInt8) (p : Nat) : splice L p [] = L := by simp [splice]
theorem tl_snoc (j n : Nat) : tl (j + 1) n = tl j (n / 128) ++ [mk n] := rfl


end Go.Proofs.YtkfhppbmnjmnoaaGreatDoor.W

namespace Go.Proofs.YtkfhppbmnjmnoaaGreatDoor.W
open Go.ChangeShapes Go.WideShapes Go.ChangeAt Go.RowKit
open Go.Proofs.YtkfhppbmnjmnoaaGreatDoor.P (mk lo hi enc tl gr up)

theorem splice_end (l : List UInt8) (m len : Nat) (e : List UInt8) (h : l.length = len) (he : e.length = m) : splice (l ++ List.replicate m 0) len e = l ++ e := by
  subst h; subst he; simp [splice]




/-- one byte in new memory -/
theorem rd_new1 (w : World) (x : UInt8) (v : Value) (t : TypeId) (hv : v = B x) : Rd (w.alloc (.cells #[v] t)) (some ⟨w.heap.size, 0, none⟩) 1 1 [x] := by
  subst hv
  refine ⟨rfl, by omega, by omega, (fun h => by cases h), .inr ⟨_, 0, rfl, by simp, fun i hi => ?_⟩⟩
  obtain rfl : i = 0 := by omega
  rw [cell_of_row _ w.heap.size 0 _ t _ (heap_alloc_new w (.cells #[B x] t))]; rfl


/-- a row of the call's own, all of it -/
theorem fr_new1 (w : World) (base : Nat) (x : UInt8) (v : Value) (hv : v = B x) (hb : base ≤ w.heap.size) : Fr (w.alloc (.cells #[v] 5)) base (.slice (some ⟨w.heap.size, 0, none⟩) 1 1) [x] := by
  subst hv
  exact ⟨rfl, .inr ⟨w.heap.size, 1, #[B x], rfl, hb, heap_alloc_new w _, Nat.le_refl _, by decide, rfl, rfl⟩⟩

theorem lo_cell (n m : Int) (h : 0 ≤ n) (hm : m = n % 128) : Value.int .u8 m = B (lo n.toNat) := by
  unfold B; rw [P.lo_nat]; exact vint (by omega)


end Go.Proofs.YtkfhppbmnjmnoaaGreatDoor.W

namespace Go.Proofs.YtkfhppbmnjmnoaaGreatDoor.W
open Go.ChangeShapes Go.WideShapes Go.ChangeAt Go.RowKit
open Go.Proofs.YtkfhppbmnjmnoaaGreatDoor.P (mk lo hi enc tl gr up)


theorem set_mid (p : List UInt8) (x y : UInt8) (r : List UInt8) (j : Nat) (h : p.length = j) : (p ++ x :: r).set j y = p ++ y :: r := by
  subst h; simp








end Go.Proofs.YtkfhppbmnjmnoaaGreatDoor.W
