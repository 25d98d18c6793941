/- LAYER 11, 13: lists of entries: as a run of cells, as a list of the call's own; slices.Clone of entries. -/
import Derived.Test.YtnlbdgaleibgcaaEnO
import Derived.Test.YtnlbdgaleibgcaaOwn
import Derived.Test.YtnlbdgaleibgcaaRcX
import Derived.Test.YtnlbdgaleibgcaaRcM
set_option linter.unusedSimpArgs false
set_option linter.unusedVariables false
namespace Go.Proofs.Ytnlbdgaleibgcaa.W
open Go Go.ChangeShapes Go.WideShapes Go.ChangeAt Go.RowKit

theorem flat_in {w : World} {a : Option Addr} {n c : Nat} {L : List (En × List UInt8)} (h : Ents w a n c L) (x off : Nat) (ha : a = some ⟨x, off, none⟩) : ∀ j u, (flat (L.map (·.1)))[j]? = some u → w.cell? ((⟨x, off, none⟩ : Addr).add j) = some u := by
  intro j u hj
  have hjl : j < L.length * 4 := by
    have := (List.getElem?_eq_some_iff.1 hj).1
    rw [flat_len, List.length_map] at this; exact this
  obtain ⟨k, i, hk, hi, rfl⟩ : ∃ k i, k < L.length ∧ i < 4 ∧ j = k * 4 + i := ⟨j / 4, j % 4, by omega, by omega, by omega⟩
  rw [flat_get _ k i (by simpa using hk) hi] at hj
  have he : (L.map (·.1)).getD k En.zero = (L.getD k Ez).1 := by simp [List.getD_eq_getElem?_getD, hk]
  rw [he] at hj
  rcases h.hcells with h0 | ⟨b, o, hb, -, hc⟩
  · have := h.hlen; omega
  · rw [ha] at hb
    obtain ⟨rfl, rfl⟩ : x = b ∧ off = o := by have := Option.some.inj hb; exact ⟨congrArg Addr.block this, congrArg Addr.off this⟩
    rw [Go.WideShapes.add_plain, ← Nat.add_assoc]
    exact hc k (by rw [← h.hlen]; exact hk) i u hj
theorem ents_own {w : World} {base : Nat} {v : Value} {n : Nat} {L : List (En × List UInt8)} (h : w.ownsRow base 34 4 v n (flat (L.map (·.1)))) (hl : L.length = n) (hm : n ≤ 1000000) (hf : ∀ p ∈ L, EnF w p.1 p.2) :
    ∃ a c, v = .slice a n c ∧ Ents w a n c L := by
  have hc := fun g hg => h.cells (g := g) hg
  rcases h.2 with ⟨rfl, hn⟩ | ⟨g, cap, cur, rfl, hg, hh, hnc, hcm, hcs, htk⟩
  · have h0 : n = 0 := by omega
    subst h0
    exact ⟨none, 0, rfl, hl, by omega, by omega, hf, fun _ => rfl, .inl rfl⟩
  · refine ⟨_, cap, rfl, hl, hnc, by unfold maxLen at hcm; omega, hf, (fun h => by cases h), .inr ⟨g, 0, rfl, (Array.getElem?_eq_some_iff.1 hh).1, fun i hi j u hj => ?_⟩⟩
    have hj4 : j < 4 := (List.getElem?_eq_some_iff.1 hj).1
    have h1 := hc g rfl (i * 4 + j) u (by
      rw [flat_get _ i j (by rw [List.length_map]; omega) hj4, ← hj]
      have : (L.map (·.1)).getD i En.zero = (L.getD i Ez).1 := by simp [List.getD_eq_getElem?_getD, show i < L.length by omega]
      rw [this])
    rw [Go.WideShapes.add_plain, ← Nat.add_assoc] at h1
    exact h1
theorem own0 (w : World) : (w.alloc (.cells #[] 34)).ownsRow w.heap.size 34 4 (.slice (some ⟨w.heap.size, 0, none⟩) 0 0) 0 (flat []) :=
  ⟨rfl, .inr ⟨w.heap.size, 0, #[], rfl, Nat.le_refl _, heap_alloc_new w _, Nat.le_refl _, Nat.zero_le _, rfl, rfl⟩⟩
end Go.Proofs.Ytnlbdgaleibgcaa.W
