/- LAYER 29 (place): Nodes of both. -/
import Derived.Test.YthbbiiegbddpdaaDoorPlN
set_option linter.unusedSimpArgs false
set_option linter.unusedVariables false
namespace Go.Proofs.YthbbiiegbddpdaaDoor.W
open Go Go.ChangeShapes Go.WideShapes Go.ChangeAt Go.RowKit
open Go.Proofs.YthbbiiegbddpdaaDoor.S
open Go.Proofs.YthbbiiegbddpdaaDoor.P (enc dec shaL shaL_len)

set_option maxRecDepth 100000 in
set_option maxHeartbeats 8000000 in
theorem plnodes (s : ByteArray) (n : Int) (w : World) (hK : Ks w) (hs : s.size ≤ 1000) (hn : SI64 n) :
    Calls Tryd.prog 10 #[.string s, .int .i64 n] w fun e w' => ∃ v, e = .returned v ∧ LsO intE w' w.heap.size v (nodP s n) ∧ Below w.heap.size w w' := by
  have HC := Lib.hid (plorder s n w hK hs hn)
  have HSI := Lib.hid (ordP_si s n)
  obtain ⟨L, hL⟩ : ∃ L, ordP s n = L := ⟨_, rfl⟩
  have HND := Lib.hid (show nodP s n = L.take 3 by unfold nodP; rw [hL])
  rw [HND.out]
  rw [hL] at HC HSI
  obtain ⟨N, hN⟩ : ∃ N, L.length = N := ⟨_, rfl⟩
  have HN := Lib.hid hN
  clear hN hL hs hn hK
  by_cases h3 : N ≤ 3
  · have g3 : (N : Int) ≤ 3 := by omega
    go_enter Tryd.func10, Tryd.ntmps10
    go_wp2_with (go_at_call 8; (with_reducible refine HC.out.mono ?_); rintro x w1 ⟨v, rfl, hl, hb⟩; have L1 := Lib.hid hl; obtain ⟨a, c, rfl, hls, -⟩ := hl.ls intOk HSI.out; have B1 := Lib.hid hb; have hle := hls.hle; rw [HN.out] at L1 hle ⊢; clear hl hls hb)
    all_goals (go_ret; first | exact ⟨_, rfl, L1.out.firstn intOk rfl N (Nat.le_refl _) |> (fun h => by rw [List.take_of_length_le (by rw [HN.out]; exact Nat.le_refl _)] at h; rw [List.take_of_length_le (by rw [HN.out]; omega)]; exact h), B1.out⟩ | (exfalso; omega))
  · have g3 : ¬ (N : Int) ≤ 3 := by omega
    go_enter Tryd.func10, Tryd.ntmps10
    go_wp2_with (go_at_call 8; (with_reducible refine HC.out.mono ?_); rintro x w1 ⟨v, rfl, hl, hb⟩; have L1 := Lib.hid hl; obtain ⟨a, c, rfl, hls, -⟩ := hl.ls intOk HSI.out; have B1 := Lib.hid hb; have hle := hls.hle; rw [HN.out] at L1 hle ⊢; clear hl hls hb)
    all_goals (go_ret; first | exact ⟨_, rfl, L1.out.firstn intOk rfl 3 (by omega), B1.out⟩ | (exfalso; omega))
set_option maxRecDepth 100000 in
set_option maxHeartbeats 8000000 in
theorem zpnodes (s : ByteArray) (n : Int) (w : World) (hs : s.size ≤ 1000) (hn : SI64 n) :
    Calls Tryd.prog 11 #[.string s, .int .i64 n] w fun e w' => ∃ v, e = .returned v ∧ LsO intE w' w.heap.size v (nodP s n) ∧ Below w.heap.size w w' := by
  have HC := Lib.hid (zporder s n w hs hn)
  have HSI := Lib.hid (ordP_si s n)
  obtain ⟨L, hL⟩ : ∃ L, ordP s n = L := ⟨_, rfl⟩
  have HND := Lib.hid (show nodP s n = L.take 3 by unfold nodP; rw [hL])
  rw [HND.out]
  rw [hL] at HC HSI
  obtain ⟨N, hN⟩ : ∃ N, L.length = N := ⟨_, rfl⟩
  have HN := Lib.hid hN
  clear hN hL hs hn
  by_cases h3 : N ≤ 3
  · have g3 : (N : Int) ≤ 3 := by omega
    go_enter Tryd.func11, Tryd.ntmps11
    go_wp2_with (go_at_call 9; (with_reducible refine HC.out.mono ?_); rintro x w1 ⟨v, rfl, hl, hb⟩; have L1 := Lib.hid hl; obtain ⟨a, c, rfl, hls, -⟩ := hl.ls intOk HSI.out; have B1 := Lib.hid hb; have hle := hls.hle; rw [HN.out] at L1 hle ⊢; clear hl hls hb)
    all_goals (go_ret; first | exact ⟨_, rfl, L1.out.firstn intOk rfl N (Nat.le_refl _) |> (fun h => by rw [List.take_of_length_le (by rw [HN.out]; exact Nat.le_refl _)] at h; rw [List.take_of_length_le (by rw [HN.out]; omega)]; exact h), B1.out⟩ | (exfalso; omega))
  · have g3 : ¬ (N : Int) ≤ 3 := by omega
    go_enter Tryd.func11, Tryd.ntmps11
    go_wp2_with (go_at_call 9; (with_reducible refine HC.out.mono ?_); rintro x w1 ⟨v, rfl, hl, hb⟩; have L1 := Lib.hid hl; obtain ⟨a, c, rfl, hls, -⟩ := hl.ls intOk HSI.out; have B1 := Lib.hid hb; have hle := hls.hle; rw [HN.out] at L1 hle ⊢; clear hl hls hb)
    all_goals (go_ret; first | exact ⟨_, rfl, L1.out.firstn intOk rfl 3 (by omega), B1.out⟩ | (exfalso; omega))
end Go.Proofs.YthbbiiegbddpdaaDoor.W
