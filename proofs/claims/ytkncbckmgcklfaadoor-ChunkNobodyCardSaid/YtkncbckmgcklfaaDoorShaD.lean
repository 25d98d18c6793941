/- CONTRACTS of layer 3 (sha): what stands behind a text, of both. -/
import Derived.Test.YtkncbckmgcklfaaDoorMem
import Derived.Test.YtkncbckmgcklfaaDoorShaP
import Derived.Deep.QuietTactic
import Derived.BigQuiet
set_option linter.unusedSimpArgs false
set_option linter.unusedVariables false
namespace Go.Proofs.YtkncbckmgcklfaaDoor.W
open Go.ChangeShapes Go.WideShapes Go.ChangeAt Go.RowKit
open Go.Proofs.YtkncbckmgcklfaaDoor.P

theorem cl_if (n : Int) : (if (576460752303423488 : Int) < if n < 0 then 0 else n then (576460752303423488 : Int) else if n < 0 then 0 else n) = (cl n : Int) := by
  unfold cl
  by_cases h1 : n < 0
  · simp [h1]
  · simp only [h1, if_false]
    by_cases h2 : 576460752303423488 < n
    · simp [h2]
    · simp only [h2, if_false]; omega

theorem byte_of (c m : Nat) : 8 * (c : Int) / 2 ^ m % 256 = ((UInt8.ofNat (8 * c / 2 ^ m)).toNat : Int) := by
  rw [UInt8.toNat_ofNat', Int.natCast_emod, Int.natCast_ediv, Int.natCast_mul, Int.natCast_pow]; rfl

set_option maxHeartbeats 1000000 in
theorem pad_any (n : Int) (w : World) : Calls Tryd.prog 53 #[.int .i64 n] w fun e w' => e = .returned (.slice (some ⟨w.heap.size, 0, none⟩) (padL (cl n)).length (padL (cl n)).length) ∧ Blk w' w.heap.size (padL (cl n)) ∧ Below w.heap.size w w' ∧ w'.heap.size = w.heap.size + 1 := by
  have hc := cl_if n
  have hle := cl_le n
  have hplen := padL_len (cl n)
  obtain ⟨c, hcc⟩ : ∃ c, cl n = c := ⟨_, rfl⟩
  rw [hcc] at hc hle ⊢
  rw [hcc] at hplen
  obtain ⟨z, hz⟩ : ∃ z, zn c = z := ⟨_, rfl⟩
  have hz64 := zn_lt c
  rw [hz] at hz64 hplen
  have ez : (119 - (c : Int) % 64) % 64 = (z : Int) := by rw [← hz, zn]; omega
  have HPL := Lib.hid hplen
  have HZ := Lib.hid hz
  clear hplen hz hcc
  go_enter Tryd.func53, Tryd.ntmps53
  go_wp2_with (at_make; simp only [ez]; refine make_blk rfl _ _ rfl _ (z + 9) rfl rfl (by omega) (by omega) ?_; intro w1 hb1 hbl1 hsz1; have HB1 := Lib.hid hb1; have h0 := hb1.cell 0 (by simp); have hf := hb1.frozen 0; clear hb1; have HZS := Lib.hid hsz1; clear hsz1; simp only [show (List.replicate (z + 9) (0 : UInt8)).getD 0 0 = 0 from rfl, B] at h0)
  all_goals
    have hset := HB1.out.set 0 (128 : UInt8)
    rw [← HZ.out, pk_zero c] at hset
    have HS0 : Hid (Blk (w1.setCell ⟨w.heap.size, 0, none⟩ (.int .u8 128)) w.heap.size (pk c 0)) := hset
    have hbl2 := hbl1.trans ((Upd.setCell w1 w.heap.size 0 (.int .u8 128)).below (Nat.le_refl _))
    have HZS2 : Hid ((w1.setCell ⟨w.heap.size, 0, none⟩ (.int .u8 128)).heap.size = w.heap.size + 1) := by rw [(Upd.setCell w1 w.heap.size 0 (.int .u8 128)).size]; exact HZS
    clear hset h0 hf hbl1 HZS HB1 hc ez
    go_loopw [19] (fun i wr => ∃ k : Nat, i = .int .i64 k ∧ k ≤ 8 ∧ Hid (Blk wr w.heap.size (pk c k)) ∧ Below w.heap.size w wr ∧ Hid (wr.heap.size = w.heap.size + 1)) (fun i _ => 8 - (intOf i).toNat)
    case atStart => exact ⟨0, rfl, by omega, HS0, hbl2, HZS2⟩
    case round =>
      obtain ⟨k, rfl, hk, HP, hbr, HSZ⟩ := hrel
      by_cases hlt : k < 8
      · have hc := HP.out.cell (1 + zn c + k) (by rw [pk_len _ _ hk]; omega)
        rw [pk_get c k hlt, HZ.out] at hc
        have hf := HP.out.frozen (1 + z + k)
        have hc' : wr.cell? ⟨w.heap.size, 1 + z + k, none⟩ = some (.int .u8 0) := hc
        clear hc
        go_wp2_with fail
        go_roundw
        case rel =>
          have hset := HP.out.set (1 + zn c + k) (UInt8.ofNat (8 * c / 2 ^ (56 - 8 * k)))
          rw [pk_set c k hlt, HZ.out] at hset
          rw [byte_of c (56 - 8 * k)]
          exact ⟨k + 1, by go_num, by omega, Lib.hid hset, hbr.trans ((Upd.setCell wr w.heap.size _ _).below (Nat.le_refl _)), by rw [(Upd.setCell wr w.heap.size _ _).size]; exact HSZ⟩
        case measure => simp [intOf]; omega
      · obtain rfl : k = 8 := by omega
        have hp := HP.out
        rw [pk_full] at hp
        have HP' := Lib.hid hp
        clear hp
        go_wp2_with fail
        go_ret
        exact ⟨one (by rw [HPL.out]; rfl), HP'.out, hbr, HSZ.out⟩

theorem cl_big (n : Int) : 0 ≤ (cl n : Int) ∧ (cl n : Int) ≤ 576460752303423488 := by have := cl_le n; omega
end Go.Proofs.YtkncbckmgcklfaaDoor.W
