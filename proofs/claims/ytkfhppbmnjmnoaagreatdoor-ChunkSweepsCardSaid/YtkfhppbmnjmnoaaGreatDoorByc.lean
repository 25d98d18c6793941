/- bytes.Clone, bytes.Equal -/
import Derived.Test.YtkfhppbmnjmnoaaGreatDoorMem
import Derived.Test.YtkfhppbmnjmnoaaGreatDoorTail
import Derived.Test.YtkfhppbmnjmnoaaGreatDoorFro
set_option linter.unusedSimpArgs false
set_option linter.unusedVariables false
namespace Go.Proofs.YtkfhppbmnjmnoaaGreatDoor.W
open Go Go.ChangeShapes Go.WideShapes Go.ChangeAt Go.RowKit

theorem str_eqb2 (a b : ByteArray) : (a.toList == b.toList) = decide (a.data.toList = b.data.toList) := by
  rw [ByteArray.toList_eq, ByteArray.toList_eq]
  rw [Bool.eq_iff_iff]; simp
set_option maxHeartbeats 400000 in
theorem fclone (a : Option Addr) (len cap : Nat) (l : List UInt8) (w : World) (hr : Rd w a len cap l) (hmax : len ≤ 140737488355000) :
    Calls Tryz.prog 53 #[.slice a len cap] w fun e w' => ∃ v, e = .returned v ∧ Fr w' w.heap.size v l ∧ Below w.heap.size w w' := by
  have HR := Lib.hid hr
  have hnil := fun (w : World) (a : Option Addr) (n c : Nat) => Lib.run_eql_slice_nil (P := Tryz.prog) w 30 5 a n c 0 0 Tryz.underlying30
  rcases a with _ | ad
  · have h0 := hr.hnil rfl
    have h1 := hr.hle
    have h2 := hr.hlen
    obtain rfl : len = 0 := by omega
    have : l = [] := List.eq_nil_of_length_eq_zero h2
    subst this h0
    clear hr h1 h2
    go_enter Tryz.func53, Tryz.ntmps53
    go_wp2_with fail
    go_ret
    exact ⟨_, rfl, Fr.nil _ _, Below.refl _ _⟩
  · clear hr
    go_enter Tryz.func53, Tryz.ntmps53
    go_wp2_with (at_builtin; refine append_rd rfl _ _ rfl w.heap.size _ [] rfl (Fr.empty w _ (Nat.le_refl _)) _ _ _ l rfl (HR.out.mono ((Below.refl _ _).alloc (Nat.le_refl _) _)) (by simp; omega) (by simp) ?_; intro v2 w2 hf2 hb2 _)
    go_ret
    exact ⟨_, rfl, hf2, ((Below.refl _ _).alloc (Nat.le_refl _) _).trans hb2⟩
set_option maxRecDepth 100000 in
set_option maxHeartbeats 4000000 in
theorem bequal (a1 a2 : Option Addr) (n1 c1 n2 c2 : Nat) (l1 l2 : List UInt8) (w : World) (h1 : Rd w a1 n1 c1 l1) (h2 : Rd w a2 n2 c2 l2) :
    Calls Tryz.prog 58 #[.slice a1 n1 c1, .slice a2 n2 c2] w fun e w' => e = .returned (.bool (decide (l1 = l2))) ∧ w = w' := by
  have cv1 := conv_rd h1
  have cv2 := conv_rd h2
  obtain ⟨D, hD⟩ : ∃ D, ((str l1).toList == (str l2).toList) = D := ⟨_, rfl⟩
  have hDx : D = decide (l1 = l2) := by rw [← hD, str_eqb2, str_data, str_data]
  rw [← hDx]
  clear h1 h2 hDx
  go_enter Tryz.func58, Tryz.ntmps58
  go_wp2_with fail
  go_ret
  exact ⟨by first | rfl | (rw [← hD]; rfl) | (simp [hD]; done) | (rw [← hD]; simp), rfl⟩
end Go.Proofs.YtkfhppbmnjmnoaaGreatDoor.W
