/- LAYER 11 (record): slices.EqualFunc of entries; SameSaved of both. -/
import Derived.Test.YtnlbdgaleibgcaaRcV
import Derived.Test.YtnlbdgaleibgcaaRcX
import Derived.Test.YtnlbdgaleibgcaaEnO
import Derived.Test.YtnlbdgaleibgcaaRcC
set_option linter.unusedSimpArgs false
set_option linter.unusedVariables false
namespace Go.Proofs.Ytnlbdgaleibgcaa.W
open Go Go.ChangeShapes Go.WideShapes Go.ChangeAt Go.RowKit

/-- a saved state, without its places -/
structure Ps where
  t : Int
  v : Int
  b : Int
  bt : Int
  f : Int
  d : List UInt8
  l : List (Int × Int × Int × List UInt8)
def Sv.ps (s : Sv) (d : List UInt8) (L : List (En × List UInt8)) : Ps := ⟨s.t, s.v, s.b, s.bt, s.f, d, L.map pe⟩
def Ps.same (a b : Ps) : Bool := (a.t == b.t) && ((a.v == b.v) && ((a.b == b.b) && ((a.bt == b.bt) && ((a.f == b.f) && (decide (a.d = b.d) && decide (a.l = b.l))))))
theorem Ps.same_self (a : Ps) : a.same a = true := by simp [Ps.same]
theorem Ps.same_iff {a b : Ps} : a.same b = true ↔ a = b := by
  obtain ⟨t, v, x, bt, f, d, l⟩ := a
  obtain ⟨t', v', x', bt', f', d', l'⟩ := b
  simp [Ps.same]
theorem same_pe (e f : En) (l m : List UInt8) : sameE e f l m = decide (pe (e, l) = pe (f, m)) := by
  unfold sameE pe
  obtain ⟨ix, tm, kd, a, n, c⟩ := e
  obtain ⟨ix', tm', kd', a', n', c'⟩ := f
  dsimp only
  by_cases h1 : ix = ix' <;> by_cases h2 : tm = tm' <;> by_cases h3 : kd = kd' <;> by_cases h4 : l = m <;> simp [h1, h2, h3, h4]
theorem map_take_next (L M : List (En × List UInt8)) (k : Nat) (hL : k < L.length) (hM : k < M.length) (h : (L.take k).map pe = (M.take k).map pe) (he : pe (L.getD k Ez) = pe (M.getD k Ez)) : (L.take (k + 1)).map pe = (M.take (k + 1)).map pe := by
  have h1 : L.take (k + 1) = L.take k ++ [L.getD k Ez] := by
    rw [List.take_succ_eq_append_getElem hL]; simp [List.getD_eq_getElem?_getD, hL]
  have h2 : M.take (k + 1) = M.take k ++ [M.getD k Ez] := by
    rw [List.take_succ_eq_append_getElem hM]; simp [List.getD_eq_getElem?_getD, hM]
  rw [h1, h2, List.map_append, List.map_append, h]
  exact congrArg (fun z => (M.take k).map pe ++ [z]) he
theorem map_ne (L M : List (En × List UInt8)) (k : Nat) (hL : k < L.length) (hM : k < M.length) (he : ¬ pe (L.getD k Ez) = pe (M.getD k Ez)) : ¬ L.map pe = M.map pe := by
  intro h
  apply he
  have h1 := congrArg (fun l => l[k]?) h
  simp only [List.getElem?_map, List.getElem?_eq_getElem hL, List.getElem?_eq_getElem hM, Option.map_some, Option.some.injEq] at h1
  simpa [List.getD_eq_getElem?_getD, hL, hM] using h1
/-- an entry of a list that came in, in a world that has grown -/
theorem Ents.at {w wr : World} {a : Option Addr} {n c : Nat} {L : List (En × List UInt8)} (h : Ents w a n c L) (hb : Below w.heap.size w wr) (k : Nat) (hk : k < n) :
    ∃ x off, a = some ⟨x, off, none⟩ ∧ (∀ j v, (L.getD k Ez).1.cells[j]? = some v → wr.cell? ⟨x, off + k * 4 + j, none⟩ = some v) ∧ EnF wr (L.getD k Ez).1 (L.getD k Ez).2 ∧ k < L.length := by
  rcases h.hcells with h0 | ⟨x, off, rfl, hx, hcell⟩
  · omega
  have hk2 : k < L.length := by rw [h.hlen]; exact hk
  refine ⟨x, off, rfl, fun j v hj => ?_, ?_, hk2⟩
  · rw [hb.cell (p := ⟨x, off + k * 4 + j, none⟩) hx]; exact hcell k hk j v hj
  · have : L.getD k Ez = L[k] := by simp [List.getD_eq_getElem?_getD, hk2]
    rw [this]
    exact (h.hfit _ (List.getElem_mem hk2)).mono hb
end Go.Proofs.Ytnlbdgaleibgcaa.W
