/- slices.Contains of strings; slices.ContainsFunc of ints, whatever the closure, if it leaves the world as it is. -/
import Derived.Test.YtkncbckmgcklfaaDoorStr
import Derived.Test.YtkncbckmgcklfaaDoorStl
import Derived.Test.YtkncbckmgcklfaaDoorIz
set_option linter.unusedSimpArgs false
set_option linter.unusedVariables false
namespace Go.Proofs.YtkncbckmgcklfaaDoor.W
open Go Go.ChangeShapes Go.WideShapes Go.ChangeAt Go.RowKit

def hasStr (L : List ByteArray) (s : ByteArray) : Bool := L.any fun x => decide (x = s)
theorem str_beq (a b : ByteArray) : (a.toList == b.toList) = decide (a = b) := by
  rw [Bool.eq_iff_iff]
  exact (eqM_iff a b).trans (by simp)
set_option maxRecDepth 100000 in
set_option maxHeartbeats 4000000 in
theorem sindex (s : ByteArray) (a : Option Addr) (n c : Nat) (L : List ByteArray) (w : World) (h : Ls strE w a n c L) :
    Calls Tryd.prog 48 #[.slice a n c, .string s] w fun x w' => (∃ z : Int, x = .returned (.int .i64 z) ∧ (0 ≤ z ↔ hasStr L s = true)) ∧ Below w.heap.size w w' := by
  have H := Lib.hid h
  have HLN := Lib.hid h.hlen
  have hm := h.hmax
  have hle := h.hle
  clear h
  go_enter Tryd.func48, Tryd.ntmps48
  go_wp2_with fail
  go_loopw [5, 8] (fun _ i wr => ∃ k : Nat, i = .int .i64 (k : Int) ∧ k ≤ n ∧ Hid (hasStr (L.take k) s = false) ∧ Hid (Below w.heap.size w wr)) (fun _ i _ => n - (intOf i).toNat)
  case atStart => exact ⟨0, rfl, Nat.zero_le _, Lib.hid rfl, Lib.hid (Below.refl _ _)⟩
  case round =>
    obtain ⟨k, rfl, hk, HP, B⟩ := hrel
    by_cases hlt : k < n
    · obtain ⟨b, off, x, rfl, hx, hcell, -⟩ := H.out.at strOk B.out k hlt
      have d1 : wr.cell? ⟨b, off + k, none⟩ = some (.string x) := by have := hcell 0 (.string x) rfl; rw [show off + k * strE.k + 0 = off + k by show off + k * 1 + 0 = off + k; omega] at this; exact this
      have g1 : (0 : Int) ≤ (k : Int) := by omega
      have g2 : (k : Int) < (n : Int) := by omega
      obtain ⟨q, hq⟩ : ∃ q, (s.toList == x.toList) = q := ⟨_, rfl⟩
      have HN := Lib.hid (show hasStr (L.take (k + 1)) s = (hasStr (L.take k) s || q) by
        obtain ⟨h1, h2⟩ := List.getElem?_eq_some_iff.1 hx
        unfold hasStr
        rw [List.take_succ_eq_append_getElem h1, h2, List.any_append, ← hq, str_beq]
        simp only [List.any_cons, List.any_nil, Bool.or_false]
        by_cases e : x = s
        · subst e; simp
        · have e2 : ¬ s = x := fun h => e h.symm
          simp [e, e2])
      have HA := Lib.hid (show q = true → hasStr L s = true by
        intro e
        rw [e, str_beq] at hq
        have e2 : s = x := by simpa using hq
        unfold hasStr
        rw [List.any_eq_true]
        exact ⟨x, List.mem_of_getElem? hx, by simp [e2]⟩)
      clear hx hcell
      cases q
      · go_wp2_with fail
        go_roundw
        case rel => exact ⟨k + 1, vint (by omega), by omega, Lib.hid (by rw [HN.out, HP.out]; rfl), B⟩
        case measure => simp [intOf]; omega
      · go_wp2_with fail
        go_ret
        exact ⟨⟨(k : Int), rfl, ⟨fun _ => HA.out (by first | rfl | trivial), fun _ => by omega⟩⟩, B.out⟩
    · obtain rfl : n = k := by omega
      have HF := Lib.hid (show hasStr L s = false by have := HP.out; rwa [List.take_of_length_le (by rw [HLN.out]; exact Nat.le_refl _)] at this)
      go_wp2_with fail
      go_ret
      exact ⟨⟨-1, rfl, ⟨fun h => by omega, fun h => by rw [HF.out] at h; cases h⟩⟩, B.out⟩
set_option maxRecDepth 100000 in
set_option maxHeartbeats 4000000 in
theorem scontains (s : ByteArray) (a : Option Addr) (n c : Nat) (L : List ByteArray) (w : World) (h : Ls strE w a n c L) :
    Calls Tryd.prog 35 #[.slice a n c, .string s] w fun x w' => x = .returned (.bool (hasStr L s)) ∧ Below w.heap.size w w' := by
  have H := Lib.hid (sindex s a n c L w h)
  obtain ⟨V, hV⟩ : ∃ V, hasStr L s = V := ⟨_, rfl⟩
  rw [hV] at H ⊢
  clear h hV
  go_enter Tryd.func35, Tryd.ntmps35
  go_wp2_with (go_at_call 48; (with_reducible refine H.out.mono ?_); rintro e w1 ⟨⟨z, rfl, hz⟩, hb⟩; have HZ := Lib.hid hz; have B1 := Lib.hid hb; clear hz hb)
  go_ret
  refine ⟨one (vbool ?_), B1.out⟩
  have := HZ.out
  cases V
  · have h2 : ¬ 0 ≤ z := fun h => by simpa using this.1 h
    simp; omega
  · have h2 := this.2 rfl
    simp; omega
set_option maxRecDepth 100000 in
set_option maxHeartbeats 4000000 in
theorem iidxf (g : FuncId) (caps : Array Value) (q : Int → Bool) (he : ∀ args w, (callFunc g args).run Tryd.prog w = .ok (.enter g args) w) (a : Option Addr) (n c : Nat) (L : List Int) (w : World) (h : Sl .i64 w a n L)
    (hG : ∀ x ∈ L, Calls Tryd.prog g (#[.int .i64 x] ++ caps) w fun e w' => e = .returned (.bool (q x)) ∧ w = w') :
    Calls Tryd.prog 49 #[.slice a n c, .func (.func g) #[] caps] w fun x w' => (∃ z : Int, x = .returned (.int .i64 z) ∧ (0 ≤ z ↔ L.any q = true)) ∧ w = w' := by
  have H := Lib.hid h
  have HLN := Lib.hid h.1
  have hm := h.2.1
  have HG := Lib.hid hG
  clear h hG
  go_enter Tryd.func49, Tryd.ntmps49
  go_wp2_with fail
  go_loopw [5, 8] (fun _ i wr => ∃ k : Nat, i = .int .i64 (k : Int) ∧ k ≤ n ∧ Hid ((L.take k).any q = false) ∧ w = wr) (fun _ i _ => n - (intOf i).toNat)
  case atStart => exact ⟨0, rfl, Nat.zero_le _, Lib.hid rfl, rfl⟩
  case round =>
    obtain ⟨k, rfl, hk, HP, rfl⟩ := hrel
    by_cases hlt : k < n
    · obtain ⟨b, off, x, rfl, hx, d1, -⟩ := H.out.at (Below.refl _ _) k hlt
      have g1 : (0 : Int) ≤ (k : Int) := by omega
      have g2 : (k : Int) < (n : Int) := by omega
      have hmem := List.mem_of_getElem? hx
      have HN := Lib.hid (show (L.take (k + 1)).any q = ((L.take k).any q || q x) by
        obtain ⟨h1, h2⟩ := List.getElem?_eq_some_iff.1 hx
        rw [List.take_succ_eq_append_getElem h1, h2, List.any_append]; simp)
      have HA := Lib.hid (show q x = true → L.any q = true from fun e => List.any_eq_true.2 ⟨x, hmem, e⟩)
      have HC := Lib.hid (HG.out x hmem)
      clear hx hmem
      go_wp2_with fail
      refine HC.out.mono ?_
      rintro e w1 ⟨rfl, rfl⟩
      cases hq : q x
      · have HN2 := Lib.hid (show (L.take (k + 1)).any q = false by rw [HN.out, HP.out, hq]; rfl)
        clear hq
        go_simp
        go_wp2_with fail
        go_roundw
        case rel => exact ⟨k + 1, vint (by omega), by omega, HN2, trivial⟩
        case measure => simp [intOf]; omega
      · have HA2 := Lib.hid (HA.out hq)
        clear hq
        go_simp
        go_wp2_with fail
        go_ret
        exact ⟨⟨(k : Int), rfl, ⟨fun _ => HA2.out, fun _ => by omega⟩⟩, rfl⟩
    · obtain rfl : n = k := by omega
      have HF := Lib.hid (show L.any q = false by have := HP.out; rwa [List.take_of_length_le (by rw [HLN.out]; exact Nat.le_refl _)] at this)
      go_wp2_with fail
      go_ret
      exact ⟨⟨-1, rfl, ⟨fun h => by omega, fun h => by rw [HF.out] at h; cases h⟩⟩, rfl⟩
set_option maxRecDepth 100000 in
set_option maxHeartbeats 4000000 in
theorem icontf (g : FuncId) (caps : Array Value) (q : Int → Bool) (he : ∀ args w, (callFunc g args).run Tryd.prog w = .ok (.enter g args) w) (a : Option Addr) (n c : Nat) (L : List Int) (w : World) (h : Sl .i64 w a n L)
    (hG : ∀ x ∈ L, Calls Tryd.prog g (#[.int .i64 x] ++ caps) w fun e w' => e = .returned (.bool (q x)) ∧ w = w') :
    Calls Tryd.prog 36 #[.slice a n c, .func (.func g) #[] caps] w fun x w' => x = .returned (.bool (L.any q)) ∧ w = w' := by
  have H := Lib.hid (iidxf g caps q he a n c L w h hG)
  obtain ⟨V, hV⟩ : ∃ V, L.any q = V := ⟨_, rfl⟩
  rw [hV] at H ⊢
  clear h hV hG
  go_enter Tryd.func36, Tryd.ntmps36
  go_wp2_with (go_at_call 49; (with_reducible refine H.out.mono ?_); rintro e w1 ⟨⟨z, rfl, hz⟩, rfl⟩; have HZ := Lib.hid hz; clear hz)
  go_ret
  refine ⟨one (vbool ?_), rfl⟩
  have := HZ.out
  cases V
  · have h2 : ¬ 0 ≤ z := fun h => by simpa using this.1 h
    simp; omega
  · have h2 := this.2 rfl
    simp; omega
end Go.Proofs.YtkncbckmgcklfaaDoor.W
