/- CONTRACTS of layer 3 (sha): what stands behind a text, of both. -/
import Derived.Test.YtkfhppbmnjmnoaaGreatDoorMem
import Derived.Test.YtkfhppbmnjmnoaaGreatDoorShaP
import Derived.Deep.QuietTactic
import Derived.BigQuiet
set_option linter.unusedSimpArgs false
set_option linter.unusedVariables false
namespace Go.Proofs.YtkfhppbmnjmnoaaGreatDoor.W
open Go.ChangeShapes Go.WideShapes Go.ChangeAt Go.RowKit
open Go.Proofs.YtkfhppbmnjmnoaaGreatDoor.P

theorem cl_if (n : Int) : (if (576460752303423488 : Int) < if n < 0 then 0 else n then (576460752303423488 : Int) else if n < 0 then 0 else n) = (cl n : Int) := by
  unfold cl
  by_cases h1 : n < 0
  · simp [h1]
  · simp only [h1, if_false]
    by_cases h2 : 576460752303423488 < n
    · simp [h2]
    · simp only [h2, if_false]; omega

theorem byte_of (c m : Nat) : 8 * (c : Int) / 2 ^ m % 256 = ((UInt8.ofNat (8 * c / 2 ^ m)).toNat : Int) := by
  rw [UInt8.toNat_ofNat', Int.natCast_emod, Int.natCast_ediv, Int.natCast_mul, Int.natCast_pow]; rfl

set_option maxHeartbeats 1000000 in
theorem pad_any (n : Int) (w : World) : Calls Tryz.prog 95 #[.int .i64 n] w fun e w' => e = .returned (.slice (some ⟨w.heap.size, 0, none⟩) (padL (cl n)).length (padL (cl n)).length) ∧ Blk w' w.heap.size (padL (cl n)) ∧ Below w.heap.size w w' ∧ w'.heap.size = w.heap.size + 1 := by
  have hc := cl_if n
  have hle := cl_le n
  have hplen := padL_len (cl n)
  obtain ⟨c, hcc⟩ : ∃ c, cl n = c := ⟨_, rfl⟩
  rw [hcc] at hc hle ⊢
  rw [hcc] at hplen
  obtain ⟨z, hz⟩ : ∃ z, zn c = z := ⟨_, rfl⟩
  have hz64 := zn_lt c
  rw [hz] at hz64 hplen
  have ez : (119 - (c : Int) % 64) % 64 = (z : Int) := by rw [← hz, zn]; omega
  have HPL := Lib.hid hplen
  have HZ := Lib.hid hz
  clear hplen hz hcc
  go_enter Tryz.func95, Tryz.ntmps95
  go_wp2_with (at_make; simp only [ez]; refine make_blk rfl _ _ rfl _ (z + 9) rfl rfl (by omega) (by omega) ?_; intro w1 hb1 hbl1 hsz1; have HB1 := Lib.hid hb1; have h0 := hb1.cell 0 (by simp); have hf := hb1.frozen 0; clear hb1; have HZS := Lib.hid hsz1; clear hsz1; simp only [show (List.replicate (z + 9) (0 : UInt8)).getD 0 0 = 0 from rfl, B] at h0)
  all_goals
    have hset := HB1.out.set 0 (128 : UInt8)
    rw [← HZ.out, pk_zero c] at hset
    have HS0 : Hid (Blk (w1.setCell ⟨w.heap.size, 0, none⟩ (.int .u8 128)) w.heap.size (pk c 0)) := hset
    have hbl2 := hbl1.trans ((Upd.setCell w1 w.heap.size 0 (.int .u8 128)).below (Nat.le_refl _))
    have HZS2 : Hid ((w1.setCell ⟨w.heap.size, 0, none⟩ (.int .u8 128)).heap.size = w.heap.size + 1) := by rw [(Upd.setCell w1 w.heap.size 0 (.int .u8 128)).size]; exact HZS
    clear hset h0 hf hbl1 HZS HB1 hc ez
    go_loopw [19] (fun i wr => ∃ k : Nat, i = .int .i64 k ∧ k ≤ 8 ∧ Hid (Blk wr w.heap.size (pk c k)) ∧ Below w.heap.size w wr ∧ Hid (wr.heap.size = w.heap.size + 1)) (fun i _ => 8 - (intOf i).toNat)
    case atStart => exact ⟨0, rfl, by omega, HS0, hbl2, HZS2⟩
    case round =>
      obtain ⟨k, rfl, hk, HP, hbr, HSZ⟩ := hrel
      by_cases hlt : k < 8
      · have hc := HP.out.cell (1 + zn c + k) (by rw [pk_len _ _ hk]; omega)
        rw [pk_get c k hlt, HZ.out] at hc
        have hf := HP.out.frozen (1 + z + k)
        have hc' : wr.cell? ⟨w.heap.size, 1 + z + k, none⟩ = some (.int .u8 0) := hc
        clear hc
        go_wp2_with fail
        go_roundw
        case rel =>
          have hset := HP.out.set (1 + zn c + k) (UInt8.ofNat (8 * c / 2 ^ (56 - 8 * k)))
          rw [pk_set c k hlt, HZ.out] at hset
          rw [byte_of c (56 - 8 * k)]
          exact ⟨k + 1, by go_num, by omega, Lib.hid hset, hbr.trans ((Upd.setCell wr w.heap.size _ _).below (Nat.le_refl _)), by rw [(Upd.setCell wr w.heap.size _ _).size]; exact HSZ⟩
        case measure => simp [intOf]; omega
      · obtain rfl : k = 8 := by omega
        have hp := HP.out
        rw [pk_full] at hp
        have HP' := Lib.hid hp
        clear hp
        go_wp2_with fail
        go_ret
        exact ⟨one (by rw [HPL.out]; rfl), HP'.out, hbr, HSZ.out⟩

theorem cl_big (n : Int) : 0 ≤ (cl n : Int) ∧ (cl n : Int) ≤ 576460752303423488 := by have := cl_le n; omega
set_option maxHeartbeats 1000000 in
theorem rpad_any (n : Int) (w : World) : Calls Tryz.prog 54 #[.int .i64 n] w fun e w' => ∃ v, e = .returned v ∧ Fr w' w.heap.size v (padL (cl n)) ∧ Below w.heap.size w w' := by
  have hc := cl_if n
  have hle := cl_le n
  obtain ⟨c, hcc⟩ : ∃ c, cl n = c := ⟨_, rfl⟩
  rw [hcc] at hc hle ⊢
  clear hcc
  go_enter Tryz.func54, Tryz.ntmps54
  go_wp2_with fail
  all_goals
    have HF0 : Hid (Fr (w.alloc (.cells #[.int .u8 128] 5)) w.heap.size (.slice (some ⟨w.heap.size, 0, none⟩) 1 1) [128]) := Fr.fresh w w.heap.size (Nat.le_refl _) 128
    have hb0 : Below w.heap.size w (w.alloc (.cells #[.int .u8 128] 5)) := (Below.refl _ _).alloc (Nat.le_refl _) _
    clear hc
    go_loopw [3] (fun v wr => ∃ (m cap : Nat) (a : Option Addr), v = .slice a m cap ∧ m ≤ zn c + 1 ∧ 1 ≤ m ∧ Hid (Fr wr w.heap.size (.slice a m cap) (128 :: List.replicate (m - 1) 0)) ∧ Below w.heap.size w wr) (fun v _ => 100 - (match v with | .slice _ m _ => m | _ => 0))
    case atStart => exact ⟨1, 1, _, rfl, by omega, by omega, HF0, hb0⟩
    case round =>
      obtain ⟨m, cap, a, rfl, hm, hm1, HF, hbr⟩ := hrel
      have hz := zn_lt c
      by_cases hlt : m < zn c + 1
      · have ht : (((c : Int) + (m : Int)) % 64 != 56) = true := by unfold zn at hlt; simp; omega
        have hm64 : m ≤ 64 := by omega
        clear hz
        go_wp2_with (at_builtin; refine append_rd rfl _ _ rfl w.heap.size _ _ rfl (HF.out.alloc _) _ _ _ [0] rfl (rd_new wr [0] _ _ rfl (by decide)) (by simp; omega) (by have := hbr.size; simp; omega) ?_; intro v2 w2 hf2 hb2 _)
        have hl2 : (128 :: List.replicate (m - 1) 0 ++ [0] : List UInt8) = 128 :: List.replicate m 0 := by
          obtain ⟨j, rfl⟩ : ∃ j, m = j + 1 := ⟨m - 1, by omega⟩
          simp [List.replicate_succ']
        rw [hl2] at hf2
        obtain ⟨a2, c2, hv2, -⟩ := hf2.form' (m + 1) (by simp)
        subst hv2
        go_wp2_with fail
        go_roundw
        case rel => exact ⟨m + 1, c2, a2, rfl, by omega, by omega, Lib.hid hf2, (hbr.alloc hbr.size _).trans hb2⟩
        case measure => simp; omega
      · have hmz : m = zn c + 1 := by omega
        have ht : (((c : Int) + (m : Int)) % 64 != 56) = false := by rw [hmz]; unfold zn; simp; omega
        have hm64 : m ≤ 64 := by omega
        have hf := HF.out
        rw [show m - 1 = zn c by omega] at hf
        have HF' := Lib.hid (show Fr wr w.heap.size (.slice a m cap) (128 :: List.replicate (zn c) 0 ++ (be8 (8 * c)).take 0) by simpa using hf)
        have HMZ := Lib.hid hmz
        clear hz hmz hf hm
        go_wp2_with fail
        go_loopw [3, 4] (fun v i wv => ∃ (k n2 c2 : Nat) (a2 : Option Addr), v = .slice a2 n2 c2 ∧ i = .int .i64 (56 - 8 * (k : Int)) ∧ k ≤ 8 ∧ Hid (n2 = m + k) ∧ Hid (Fr wv w.heap.size (.slice a2 n2 c2) (128 :: List.replicate (zn c) 0 ++ (be8 (8 * c)).take k)) ∧ Hid (Below w.heap.size w wv)) (fun _ i _ => (intOf i + 8).toNat)
        case atStart => exact ⟨0, m, cap, a, rfl, rfl, by omega, Lib.hid rfl, HF', hbr⟩
        case round =>
          obtain ⟨k, n2, c2, a2, rfl, rfl, hk, HN2, HFK, HBK⟩ := hrel
          by_cases hlt : k < 8
          · have hbw := HBK.out
            have hbs := hbw.size
            have hlen : (128 :: List.replicate (zn c) 0 ++ (be8 (8 * c)).take k : List UInt8).length ≤ 200 := by have := zn_lt c; simp [be8_len]; omega
            have HBS := Lib.hid hbs
            have HLEN := Lib.hid hlen
            clear hbw hbs hlen ht hm64 hm1
            go_wp2_with (at_builtin; refine append_rd rfl _ _ rfl w.heap.size _ _ rfl (HFK.out.alloc _) _ _ _ [UInt8.ofNat (8 * c / 2 ^ (56 - 8 * k))] rfl (rd_new wr [UInt8.ofNat (8 * c / 2 ^ (56 - 8 * k))] _ _ (by rw [byte_of c (56 - 8 * k)]; rfl) (by simp)) (by have := HLEN.out; omega) (by have := HBS.out; simp; omega) ?_; intro v2 w2 hf2 hb2 _)
            rw [List.append_assoc, be8_snoc c k hlt] at hf2
            have hn2 : (128 :: List.replicate (zn c) 0 ++ (be8 (8 * c)).take (k + 1) : List UInt8).length = n2 + 1 := by
              have h1 := HN2.out
              have h2 := HMZ.out
              simp [be8_len]; omega
            obtain ⟨a3, c3, hv3, -⟩ := hf2.form' (n2 + 1) hn2
            subst hv3
            have HN3 : Hid (n2 + 1 = m + (k + 1)) := Lib.hid (by have := HN2.out; omega)
            clear hn2
            go_wp2_with fail
            go_roundw
            case rel => exact ⟨k + 1, n2 + 1, c3, a3, rfl, vint (by omega), by omega, HN3, Lib.hid hf2, Lib.hid ((HBK.out.alloc HBS.out _).trans hb2)⟩
            case measure => simp [intOf]; omega
          · obtain rfl : k = 8 := by omega
            have hfin : (128 :: List.replicate (zn c) 0 ++ (be8 (8 * c)).take 8 : List UInt8) = padL c := by rw [padL, List.take_of_length_le (by simp [be8_len])]; rfl
            have hff := HFK.out
            rw [hfin] at hff
            have HFF := Lib.hid hff
            clear hff hfin ht hm64 hm1
            go_wp2_with fail
            go_ret
            exact ⟨_, rfl, HFF.out, HBK.out⟩
end Go.Proofs.YtkfhppbmnjmnoaaGreatDoor.W
