/- CONTRACTS of layer 3 (sha): the words of a block, and the next sixteen. -/
import Derived.Test.YtkfhppbmnjmnoaaGreatDoorArr
import Derived.Test.YtkfhppbmnjmnoaaGreatDoorShaW
import Derived.RegionTactic
import Derived.ChangeAlike
import Derived.StillTailTactics
set_option linter.unusedSimpArgs false
set_option linter.unusedVariables false
namespace Go.Proofs.YtkfhppbmnjmnoaaGreatDoor.W
open Go.ChangeShapes Go.WideShapes Go.ChangeAt Go.RowKit
open Go.Proofs.YtkfhppbmnjmnoaaGreatDoor.P

theorem U_one (l : List UInt32) : ∀ u ∈ l.map U, u.oneCell' = true := by
  intro u hu
  obtain ⟨x, -, rfl⟩ := List.mem_map.1 hu
  rfl
theorem size16 : (Tryz.prog.info? 121).map (·.size) = some 16 := by kernel_rfl
theorem sizeU : (Tryz.prog.info? 76).map (·.size) = some 1 := by kernel_rfl
theorem zero16 : (Tryz.prog.info? 121).map (·.zero) = some (some (.agg ((List.replicate 16 (0 : UInt32)).map U).toArray)) := by kernel_rfl


set_option maxRecDepth 100000 in
theorem next_any (m : List UInt32) (hm : m.length = 16) (w : World) : Calls Tryz.prog 108 #[.agg (m.map U).toArray] w fun e w' => e = .returned (.agg ((nx m).map U).toArray) ∧ Below w.heap.size w w' := by
  have HM := Lib.hid hm
  go_enter Tryz.func108, Tryz.ntmps108
  go_wp2_with (first | (with_reducible refine box_row rfl _ _ rfl (m.map U) rfl ?_; intro w1 hr1 hb1 hz1) | (with_reducible refine alloc_row rfl _ rfl _ zero16 ?_; intro w2 hr2 hb2 hz2))
  have HR2 := Lib.hid hr2
  have hr := hr1.below hb2 (by omega)
  have c14 := hr.cell 0 14 (by omega)
  have c9 := hr.cell 0 9 (by omega)
  have c1 := hr.cell 0 1 (by omega)
  have c0 := hr.cell 0 0 (by omega)
  obtain ⟨last, hlast⟩ : ∃ x, sB (m.getD 14 0) + m.getD 9 0 + sA (m.getD 1 0) + m.getD 0 0 = x := ⟨_, rfl⟩
  have HLAST := Lib.hid hlast
  have HNX : Hid (m.drop 1 ++ [last] = nx m) := Lib.hid (by rw [← hlast]; rfl)
  have HR := Lib.hid hr
  have HZ2 := Lib.hid hz2
  have HZ1 := Lib.hid hz1
  generalize m.getD 14 0 = x14 at *
  generalize m.getD 9 0 = x9 at *
  generalize m.getD 1 0 = x1 at *
  generalize m.getD 0 0 = x0 at *
  clear hm hlast hr1 hr2 hr hz1 hz2
  unfold U at c14 c9 c1 c0
  go_wp2_with fail
  go_quiet ((first | (go_at_call 123; exact Calls.quiet_of_same (sw (sB_any _ _))) | (go_at_call 124; exact Calls.quiet_of_same (sw (sA_any _ _)))))
  simp only [i_add]
  rw [HLAST.out]
  generalize sB x14 + x9 = y1 at *
  generalize y1 + sA x1 = y2 at *
  go_wp2_with fail
  go_still_tail 2, (by kernel_rfl)
  change wpList _ _ _ _ _ (w2.drewN nq).drew
  have HR := Lib.hid ((show Row (w2.drewN nq).drew w.heap.size 121 (m.map U) from HR.out))
  have HR2 := Lib.hid ((show Row (w2.drewN nq).drew w1.heap.size 121 _ from HR2.out))
  have hb3 : Below w.heap.size w (w2.drewN nq).drew := by
    have h := hb1.trans (hb2.mono (by have := HZ1.out; omega))
    exact (below_drewN h nq).drew
  clear c14 c9 c1 c0 hb1 hb2 HZ2
  generalize (w2.drewN nq).drew = w3 at *
  have hcopy : ∀ (j : Nat) v, ((m.drop 1).map U)[j]? = some v → w3.cell? ⟨w.heap.size, 1 + j, none⟩ = some v := by
    intro j v hj
    rw [HR.out.cellV, ← hj]; simp [Nat.add_comm]
  have HCO := Lib.hid hcopy
  clear hcopy
  refine copy_row rfl _ _ _ _ rfl w.heap.size 0 1 w.heap.size _ _ _ _ rfl rfl 76 Tryz.underlying136 sizeU 121 (m.map U) HR.out ((m.drop 1).map U) (by simp [HM.out]) (by simp) (U_one _) HCO.out ?_
  intro w4 hr4 hu4
  have hspl : splice (m.map U) 0 ((m.drop 1).map U) = (m.drop 1 ++ [m.getD 15 0]).map U := by
    rw [splice, List.map_append]
    simp [HM.out]
    rw [List.drop_eq_getElem_cons (by simp [HM.out]), List.drop_eq_nil_of_le (by simp [HM.out])]
    simp
  rw [hspl] at hr4
  have hl4 : (m.drop 1 ++ [m.getD 15 0]).length = 16 := by simp [HM.out]
  have hc15 := hr4.cell 0 15 (by omega)
  have hf15 := hr4.frozen 15
  have hr5 := hr4.set 15 last
  have hl5 : (m.drop 1 ++ [m.getD 15 0]).set 15 last = m.drop 1 ++ [last] := by
    rw [List.set_append_right _ _ (by simp [HM.out])]; simp [HM.out]
  rw [hl5] at hr5
  have HR5 := Lib.hid hr5
  have HL := Lib.hid (show ((m.drop 1 ++ [last]).map U).length = 16 by simp [HM.out])
  have hbz := hb3.trans (hu4.below (Nat.le_refl _))
  have HRW := Lib.hid (HR2.out.upd hu4 (by have := HZ1.out; omega))
  obtain ⟨nm, hnm⟩ : ∃ x, m.drop 1 ++ [last] = x := ⟨_, rfl⟩
  rw [hnm] at HR5 HL
  have HNM := Lib.hid hnm
  clear hspl hl4 hr4 hr5 hl5 hu4 HR2 hb3 hnm
  generalize (m.drop 1 ++ [m.getD 15 0]).getD 15 0 = x15 at *
  unfold U at hc15
  have HRW := Lib.hid (HRW.out.upd (Upd.setCell w4 w.heap.size 15 (U last)) (by have := HZ1.out; omega))
  have HR5' : Hid (Row (w4.setCell ⟨w.heap.size, 15, none⟩ (.int .u32 last.toNat)) w.heap.size 121 (nm.map U)) := HR5
  have HRW' : Hid (Row (w4.setCell ⟨w.heap.size, 15, none⟩ (.int .u32 last.toNat)) w1.heap.size 121 ((List.replicate 16 0).map U)) := HRW
  clear HRW HR5
  have HZL := Lib.hid (show ((List.replicate 16 (0 : UInt32)).map U).length = 16 from rfl)
  go_wp2_with (first | (with_reducible refine load_row rfl _ _ rfl _ rfl 121 _ (.array 16 76) HR5'.out Tryz.underlying121 rfl (by rw [HL.out]; exact size16) ?_) | (with_reducible refine store_row rfl _ _ _ rfl _ _ rfl rfl 121 _ HRW'.out (size16.trans (congrArg some HL.out.symm)) (HZL.out.trans HL.out.symm) (U_one _) ?_; intro w5 hr5 hu5))
  refine bodyPost_ret (results_cell_row rfl _ _ w1.heap.size 121 (nm.map U).toArray _ (.array 16 76) rfl hr5 Tryz.underlying121 rfl (by rw [List.size_toArray, HL.out]; exact size16)) rfl ⟨?_, ?_⟩
  · rw [← HNM.out, HNX.out]
  · exact (hbz.trans ((Upd.setCell _ _ _ _).below (Nat.le_refl _))).trans (hu5.below (by have := HZ1.out; omega))

theorem B_one' (l : List UInt8) : ∀ u ∈ l.map B, u.oneCell' = true := B_one l
theorem size64b : (Tryz.prog.info? 79).map (·.size) = some 64 := by kernel_rfl
theorem sizeB : (Tryz.prog.info? 5).map (·.size) = some 1 := by kernel_rfl

set_option maxRecDepth 100000 in
set_option maxHeartbeats 1000000 in
theorem words_any (b : List UInt8) (hb : b.length = 64) (w : World) : Calls Tryz.prog 103 #[.agg (b.map B).toArray] w fun e w' => e = .returned (.agg ((words16 b).map U).toArray) ∧ Below w.heap.size w w' := by
  have HB := Lib.hid hb
  have HBL := Lib.hid (show (b.map B).length = 64 by simpa using hb)
  clear hb
  go_enter Tryz.func103, Tryz.ntmps103
  go_wp2_with (first
    | (with_reducible refine box_row rfl _ _ rfl (b.map B) rfl ?_; intro w1 hr1 hb1 hz1; have HR1 := Lib.hid hr1; clear hr1; have HZ1 := Lib.hid hz1; clear hz1)
    | (with_reducible refine alloc_row (o := ⟨some 2, _, _, _, _, _⟩) rfl _ rfl _ zero16 ?_; intro w2 hr2 hb2 hz2; have HR2 := Lib.hid hr2; clear hr2; have HZ2 := Lib.hid hz2; clear hz2)
    | (with_reducible refine alloc_row (o := ⟨some 3, _, _, _, _, _⟩) rfl _ rfl _ zero16 ?_; intro w3 hr3 hb3 hz3; have HR3 := Lib.hid hr3; clear hr3; have HZ3 := Lib.hid hz3; clear hz3
       have HR1 := Lib.hid ((HR1.out.below hb2 (by have := HZ1.out; omega)).below hb3 (by have := HZ1.out; have := HZ2.out; omega)); have HR2 := Lib.hid (HR2.out.below hb3 (by have := HZ2.out; omega)))
    | (with_reducible refine load_row (o := ⟨some 6, _, _, _, _, _⟩) rfl _ _ rfl _ rfl 79 _ (.array 64 5) HR1.out Tryz.underlying79 rfl (size64b.trans (congrArg some HBL.out.symm)) ?_))
  have hbl : Below w.heap.size w w3 := (hb1.trans (hb2.mono (by have := HZ1.out; omega))).trans (hb3.mono (by have := HZ1.out; have := HZ2.out; omega))
  have hgg : w1.heap.size ≠ w2.heap.size ∧ w.heap.size ≤ w2.heap.size ∧ w.heap.size ≤ w1.heap.size := by have := HZ1.out; have := HZ2.out; omega
  have HP0 := Lib.hid (show Row w3 w2.heap.size 121 ((pw b 0).map U) by rw [pw_zero]; exact HR3.out)
  have HGG := Lib.hid hgg
  clear hb1 hb2 hb3 hgg HR3 HZ1 HZ2 HZ3
  generalize w1.heap.size = g1 at *
  generalize w2.heap.size = g2 at *
  have HX := fun (k : Nat) (hk : k < 64) => hk
  clear HX
  go_loopw [7] (fun i wr => ∃ k : Nat, i = .int .i64 k ∧ k ≤ 64 ∧ Hid (Row wr g2 121 ((pw b k).map U)) ∧ Hid (Row wr g1 121 ((List.replicate 16 0).map U)) ∧ Below w.heap.size w wr) (fun i _ => 64 - (intOf i).toNat)
  case atStart => exact ⟨0, rfl, by omega, HP0, by assumption, hbl⟩
  case round =>
    obtain ⟨k, rfl, hk, HP, HQ, hbr⟩ := hrel
    by_cases hlt : k < 64
    · obtain ⟨q, r, hq, hr, hkq⟩ : ∃ q r, q < 16 ∧ r < 4 ∧ k = 4 * q + r := ⟨k / 4, k % 4, by omega, by omega, by omega⟩
      have hc := HP.out.cell 0 q (by rw [pw_len]; exact hq)
      rw [hkq, pw_get b q r hq hr] at hc
      have hf := HP.out.frozen q
      have ha := acc_lt b (4 * q) r
      have ha2 : acc b (4 * q) r < 16777216 := Nat.lt_of_lt_of_le ha (by
        have : r = 0 ∨ r = 1 ∨ r = 2 ∨ r = 3 := by omega
        rcases this with rfl | rfl | rfl | rfl <;> decide)
      obtain ⟨z, hz⟩ : ∃ z, b.getD k 0 = z := ⟨_, rfl⟩
      have hz8 : (z.toNat : Int) < 256 := by have := z.toNat_lt; omega
      have hst := byte_in (acc b (4 * q) r) z ha2
      have hac : acc b (4 * q) r * 256 + z.toNat = acc b (4 * q) (r + 1) := by rw [← hz, hkq]; rfl
      rw [hac, IntKind.wrap_u32'] at hst
      have HZ := Lib.hid hz
      have hset := HP.out.set q (UInt32.ofNat (acc b (4 * q) (r + 1)))
      rw [hkq, pw_set b q r hr, ← hkq] at hset
      have hq2 := HQ.out.upd (Upd.setCell wr g2 q (U (UInt32.ofNat (acc b (4 * q) (r + 1))))) HGG.out.1
      have hbs := hbr.trans ((Upd.setCell wr g2 q (U (UInt32.ofNat (acc b (4 * q) (r + 1))))).below HGG.out.2.1)
      have e4 : (k : Int) / 4 = (q : Int) := by omega
      have hnew : ∃ y : UInt32, UInt32.ofNat (acc b (4 * q) (r + 1)) = y := ⟨_, rfl⟩
      obtain ⟨y, hy⟩ := hnew
      rw [hy] at hst hset hq2 hbs
      generalize UInt32.ofNat (acc b (4 * q) r) = x at *
      have HST := Lib.hid hst
      have HSET := Lib.hid hset
      have HQ2 := Lib.hid hq2
      have HK := Lib.hid hkq
      unfold U at hc
      clear hst hset hq2 hkq ha ha2 hac hy hz
      go_wp2_with (with_reducible refine index_row rfl _ _ _ rfl B 0 b rfl k rfl 64 5 .u8 Tryz.underlying79 Tryz.underlying5 sizeB HB.out hlt ?_; rw [HZ.out, show B z = .int .u8 (z.toNat : Int) from rfl])
      rw [HST.out]
      go_roundw
      case rel =>
        exact ⟨k + 1, by go_num, by omega, HSET, HQ2, hbs⟩
      case measure => simp [intOf]; omega
    · obtain rfl : k = 64 := by omega
      have hl := congrArg List.length (rfl : (words16 b).map U = (words16 b).map U)
      have HP2 := HP.out
      rw [pw_full] at HP2
      have HP := Lib.hid HP2
      have HL := Lib.hid (show ((words16 b).map U).length = 16 by simp [words16])
      have HZL := Lib.hid (show ((List.replicate 16 (0 : UInt32)).map U).length = 16 from rfl)
      clear hl HP2
      go_wp2_with (first | (with_reducible refine load_row rfl _ _ rfl _ rfl 121 _ (.array 16 76) HP.out Tryz.underlying121 rfl (size16.trans (congrArg some HL.out.symm)) ?_) | (with_reducible refine store_row rfl _ _ _ rfl _ _ rfl rfl 121 _ HQ.out (size16.trans (congrArg some HL.out.symm)) (HZL.out.trans HL.out.symm) (U_one _) ?_; intro w5 hr5 hu5))
      refine bodyPost_ret (results_cell_row rfl _ _ g1 121 ((words16 b).map U).toArray _ (.array 16 76) rfl hr5 Tryz.underlying121 rfl (size16.trans (congrArg some (by rw [List.size_toArray, HL.out])))) rfl ⟨rfl, ?_⟩
      exact hbr.trans (hu5.below HGG.out.2.2)
end Go.Proofs.YtkfhppbmnjmnoaaGreatDoor.W
