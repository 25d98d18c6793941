/- slices.Contains of strings; slices.ContainsFunc of ints, whatever the closure, if it leaves the world as it is. -/
import Derived.Test.YthbbiiegbddpdaaDoorStr
import Derived.Test.YthbbiiegbddpdaaDoorStl
import Derived.Test.YthbbiiegbddpdaaDoorIz
set_option linter.unusedSimpArgs false
set_option linter.unusedVariables false
namespace Go.Proofs.YthbbiiegbddpdaaDoor.W
open Go Go.ChangeShapes Go.WideShapes Go.ChangeAt Go.RowKit

def hasStr (L : List ByteArray) (s : ByteArray) : Bool := L.any fun x => decide (x = s)
theorem str_beq (a b : ByteArray) : (a.toList == b.toList) = decide (a = b) := by
  rw [Bool.eq_iff_iff]
  exact (eqM_iff a b).trans (by simp)
set_option maxRecDepth 100000 in
set_option maxHeartbeats 4000000 in
theorem iidxf (g : FuncId) (caps : Array Value) (q : Int → Bool) (he : ∀ args w, (callFunc g args).run Tryd.prog w = .ok (.enter g args) w) (a : Option Addr) (n c : Nat) (L : List Int) (w : World) (h : Sl .i64 w a n L)
    (hG : ∀ x ∈ L, Calls Tryd.prog g (#[.int .i64 x] ++ caps) w fun e w' => e = .returned (.bool (q x)) ∧ w = w') :
    Calls Tryd.prog 41 #[.slice a n c, .func (.func g) #[] caps] w fun x w' => (∃ z : Int, x = .returned (.int .i64 z) ∧ (0 ≤ z ↔ L.any q = true)) ∧ w = w' := by
  have H := Lib.hid h
  have HLN := Lib.hid h.1
  have hm := h.2.1
  have HG := Lib.hid hG
  clear h hG
  go_enter Tryd.func41, Tryd.ntmps41
  go_wp2_with fail
  go_loopw [5, 8] (fun _ i wr => ∃ k : Nat, i = .int .i64 (k : Int) ∧ k ≤ n ∧ Hid ((L.take k).any q = false) ∧ w = wr) (fun _ i _ => n - (intOf i).toNat)
  case atStart => exact ⟨0, rfl, Nat.zero_le _, Lib.hid rfl, rfl⟩
  case round =>
    obtain ⟨k, rfl, hk, HP, rfl⟩ := hrel
    by_cases hlt : k < n
    · obtain ⟨b, off, x, rfl, hx, d1, -⟩ := H.out.at (Below.refl _ _) k hlt
      have g1 : (0 : Int) ≤ (k : Int) := by omega
      have g2 : (k : Int) < (n : Int) := by omega
      have hmem := List.mem_of_getElem? hx
      have HN := Lib.hid (show (L.take (k + 1)).any q = ((L.take k).any q || q x) by
        obtain ⟨h1, h2⟩ := List.getElem?_eq_some_iff.1 hx
        rw [List.take_succ_eq_append_getElem h1, h2, List.any_append]; simp)
      have HA := Lib.hid (show q x = true → L.any q = true from fun e => List.any_eq_true.2 ⟨x, hmem, e⟩)
      have HC := Lib.hid (HG.out x hmem)
      clear hx hmem
      go_wp2_with fail
      refine HC.out.mono ?_
      rintro e w1 ⟨rfl, rfl⟩
      cases hq : q x
      · have HN2 := Lib.hid (show (L.take (k + 1)).any q = false by rw [HN.out, HP.out, hq]; rfl)
        clear hq
        go_simp
        go_wp2_with fail
        go_roundw
        case rel => exact ⟨k + 1, vint (by omega), by omega, HN2, trivial⟩
        case measure => simp [intOf]; omega
      · have HA2 := Lib.hid (HA.out hq)
        clear hq
        go_simp
        go_wp2_with fail
        go_ret
        exact ⟨⟨(k : Int), rfl, ⟨fun _ => HA2.out, fun _ => by omega⟩⟩, rfl⟩
    · obtain rfl : n = k := by omega
      have HF := Lib.hid (show L.any q = false by have := HP.out; rwa [List.take_of_length_le (by rw [HLN.out]; exact Nat.le_refl _)] at this)
      go_wp2_with fail
      go_ret
      exact ⟨⟨-1, rfl, ⟨fun h => by omega, fun h => by rw [HF.out] at h; cases h⟩⟩, rfl⟩
end Go.Proofs.YthbbiiegbddpdaaDoor.W
