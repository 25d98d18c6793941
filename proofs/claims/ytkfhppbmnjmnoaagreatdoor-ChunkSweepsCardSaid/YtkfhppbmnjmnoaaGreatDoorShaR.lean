/- CONTRACTS of layer 3 (sha): the reference's words, constants and beginning. -/
import Derived.Test.YtkfhppbmnjmnoaaGreatDoorShaN
import Derived.Test.YtkfhppbmnjmnoaaGreatDoorTail
import Derived.IntWalk
set_option linter.unusedSimpArgs false
set_option linter.unusedVariables false
namespace Go.Proofs.YtkfhppbmnjmnoaaGreatDoor.W
open Go.ChangeShapes Go.WideShapes Go.ChangeAt Go.RowKit
open Go.Proofs.YtkfhppbmnjmnoaaGreatDoor.P

theorem size64 : (Tryz.prog.info? 99).map (·.size) = some 64 := by kernel_rfl
theorem zero64 : (Tryz.prog.info? 99).map (·.zero) = some (some (.agg ((List.replicate 64 (0 : UInt32)).map U).toArray)) := by kernel_rfl

set_option maxRecDepth 100000 in
set_option maxHeartbeats 2000000 in
theorem rwords_any (b : List UInt8) (hb : b.length = 64) (w : World) : Calls Tryz.prog 79 #[.agg (b.map B).toArray] w fun e w' => e = .returned (.agg ((ws b).map U).toArray) ∧ Below w.heap.size w w' := by
  have HB := Lib.hid hb
  clear hb
  go_enter Tryz.func79, Tryz.ntmps79
  go_wp2_with (first
    | (with_reducible refine box_row rfl _ _ rfl (b.map B) rfl ?_; intro w1 hr1 hb1 hz1; have HR1 := Lib.hid hr1; clear hr1; have HZ1 := Lib.hid hz1; clear hz1)
    | (with_reducible refine alloc_row (o := ⟨some 2, _, _, _, _, _⟩) rfl _ rfl _ zero64 ?_; intro w2 hr2 hb2 hz2; have HR2 := Lib.hid hr2; clear hr2; have HZ2 := Lib.hid hz2; clear hz2)
    | (with_reducible refine alloc_row (o := ⟨some 3, _, _, _, _, _⟩) rfl _ rfl _ zero64 ?_; intro w3 hr3 hb3 hz3; have HR3 := Lib.hid hr3; clear hr3; have HZ3 := Lib.hid hz3; clear hz3
       have HR1 := Lib.hid ((HR1.out.below hb2 (by have := HZ1.out; omega)).below hb3 (by have := HZ1.out; have := HZ2.out; omega)); have HR2 := Lib.hid (HR2.out.below hb3 (by have := HZ2.out; omega))))
  have hbl : Below w.heap.size w w3 := (hb1.trans (hb2.mono (by have := HZ1.out; omega))).trans (hb3.mono (by have := HZ1.out; have := HZ2.out; omega))
  have hgg : w1.heap.size ≠ w2.heap.size ∧ w.heap.size ≤ w2.heap.size ∧ w.heap.size ≤ w1.heap.size ∧ w.heap.size ≠ w2.heap.size := by have := HZ1.out; have := HZ2.out; omega
  have HP0 := Lib.hid (show Row w3 w2.heap.size 99 ((pz (ws b) 0).map U) by rw [pz_zero]; exact HR3.out)
  have HGG := Lib.hid hgg
  clear hb1 hb2 hb3 hgg HR3 HZ1 HZ2 HZ3
  generalize w1.heap.size = g1 at *
  generalize w2.heap.size = g2 at *
  go_loopw [4] (fun i wr => ∃ k : Nat, i = .int .i64 k ∧ k ≤ 64 ∧ Hid (Row wr g2 99 ((pz (ws b) k).map U)) ∧ Hid (Row wr g1 99 ((List.replicate 64 0).map U)) ∧ Hid (Row wr w.heap.size 79 (b.map B)) ∧ Below w.heap.size w wr) (fun i _ => 64 - (intOf i).toNat)
  case atStart => exact ⟨0, rfl, by omega, HP0, HR2, HR1, hbl⟩
  case round =>
    obtain ⟨k, rfl, hk, HP, HQ, HBR, hbr⟩ := hrel
    by_cases h16 : k < 16
    · go_wp2_with fail
      obtain ⟨s, hs⟩ : ∃ s, 4 * k = s := ⟨_, rfl⟩
      obtain ⟨s1, hs1⟩ : ∃ s1, s + 1 = s1 := ⟨_, rfl⟩
      obtain ⟨s2, hs2⟩ : ∃ s2, s + 2 = s2 := ⟨_, rfl⟩
      obtain ⟨s3, hs3⟩ : ∃ s3, s + 3 = s3 := ⟨_, rfl⟩
      have c0 := HBR.out.cell 0 s (by rw [HB.out]; omega)
      have c1 := HBR.out.cell 0 s1 (by rw [HB.out]; omega)
      have c2 := HBR.out.cell 0 s2 (by rw [HB.out]; omega)
      have c3 := HBR.out.cell 0 s3 (by rw [HB.out]; omega)
      have e0 : IntKind.i64.wrap (4 * (k : Int)) = (s : Int) := by rw [IntWalk.i64_in _ (by omega)]; omega
      have e1 : IntKind.i64.wrap ((s : Int) + 1) = (s1 : Int) := by rw [IntWalk.i64_in _ (by omega)]; omega
      have e2 : IntKind.i64.wrap ((s : Int) + 2) = (s2 : Int) := by rw [IntWalk.i64_in _ (by omega)]; omega
      have e3 : IntKind.i64.wrap ((s : Int) + 3) = (s3 : Int) := by rw [IntWalk.i64_in _ (by omega)]; omega
      have l0 : (s : Int) < 64 := by omega
      have l1 : (s1 : Int) < 64 := by omega
      have l2 : (s2 : Int) < 64 := by omega
      have l3 : (s3 : Int) < 64 := by omega
      have hval := ws_low b k h16
      rw [hs, acc4, hs1, hs2, hs3] at hval
      generalize b.getD s 0 = z0 at *
      generalize b.getD s1 0 = z1 at *
      generalize b.getD s2 0 = z2 at *
      generalize b.getD s3 0 = z3 at *
      have HV := Lib.hid hval
      clear hval hs hs1 hs2 hs3
      unfold B at c0 c1 c2 c3
      refine wp_region_tail 31 (by kernel_rfl) (by kernel_rfl) ?_
      simp only [List.take_succ_cons, List.take_zero, List.drop_succ_cons, List.drop_zero]
      repeat (quiet_step (fail))
      refine wpQuiet_nil ?_
      rintro _ ⟨nq, rfl⟩
      rw [four_bytes, ← HV.out]
      have hc := HP.out.cell 0 k (by rw [pz_len _ _ (ws_len b) hk]; omega)
      generalize (pz (ws b) k).getD k 0 = old at *
      have hset := (HP.out.drewN nq).set k ((ws b).getD k 0)
      rw [pz_set _ _ (ws_len b) (by omega)] at hset
      generalize (ws b).getD k 0 = y at *
      have hf := (HP.out.drewN nq).frozen k
      have hq2 := (HQ.out.drewN nq).upd (Upd.setCell _ g2 k (U y)) HGG.out.1
      have hb2 := (HBR.out.drewN nq).upd (Upd.setCell _ g2 k (U y)) HGG.out.2.2.2
      have hbs := (below_drewN hbr nq).trans ((Upd.setCell _ g2 k (U y)).below HGG.out.2.1)
      have hc' : (wr.drewN nq).cell? ⟨g2, k, none⟩ = some (U old) := hc
      have HSET := Lib.hid hset
      have HQ2 := Lib.hid hq2
      have HB2 := Lib.hid hb2
      clear hset hq2 hb2 hc c0 c1 c2 c3
      generalize wr.drewN nq = wq at *
      unfold U at hc'
      clear e0 e1 e2 e3
      go_wp2_with fail
      go_roundw
      case rel => exact ⟨k + 1, by go_num, by omega, HSET, HQ2, HB2, hbs⟩
      case measure => simp [intOf]; omega
    · by_cases h64 : k < 64
      · go_wp2_with fail
        obtain ⟨k2, hk2⟩ : ∃ x, k - 2 = x := ⟨_, rfl⟩
        obtain ⟨k7, hk7⟩ : ∃ x, k - 7 = x := ⟨_, rfl⟩
        obtain ⟨k15, hk15⟩ : ∃ x, k - 15 = x := ⟨_, rfl⟩
        obtain ⟨k16, hk16⟩ : ∃ x, k - 16 = x := ⟨_, rfl⟩
        have hv := ws_high b k (by omega) h64
        have c2 := HP.out.cell 0 k2 (by rw [pz_len _ _ (ws_len b) hk]; omega)
        have c7 := HP.out.cell 0 k7 (by rw [pz_len _ _ (ws_len b) hk]; omega)
        have c15 := HP.out.cell 0 k15 (by rw [pz_len _ _ (ws_len b) hk]; omega)
        have c16 := HP.out.cell 0 k16 (by rw [pz_len _ _ (ws_len b) hk]; omega)
        rw [pz_get _ _ _ (ws_len b) hk (by omega)] at c2 c7 c15 c16
        rw [hk2, hk7, hk15, hk16] at hv
        have e2 : IntKind.i64.wrap ((k : Int) - 2) = (k2 : Int) := by rw [IntWalk.i64_in _ (by omega)]; omega
        have e7 : IntKind.i64.wrap ((k : Int) - 7) = (k7 : Int) := by rw [IntWalk.i64_in _ (by omega)]; omega
        have e15 : IntKind.i64.wrap ((k : Int) - 15) = (k15 : Int) := by rw [IntWalk.i64_in _ (by omega)]; omega
        have e16 : IntKind.i64.wrap ((k : Int) - 16) = (k16 : Int) := by rw [IntWalk.i64_in _ (by omega)]; omega
        have l2 : (k2 : Int) < 64 := by omega
        have l7 : (k7 : Int) < 64 := by omega
        have l15 : (k15 : Int) < 64 := by omega
        have l16 : (k16 : Int) < 64 := by omega
        generalize (ws b).getD k2 0 = x2 at *
        generalize (ws b).getD k7 0 = x7 at *
        generalize (ws b).getD k15 0 = x15 at *
        generalize (ws b).getD k16 0 = x16 at *
        have HV := Lib.hid hv
        clear hv hk2 hk7 hk15 hk16
        unfold U at c2 c7 c15 c16
        go_quiet (fail)
        go_wp2_with fail
        have c7' : (wr.drewN nq).cell? ⟨g2, k7, none⟩ = _ := c7
        have c16' : (wr.drewN nq).cell? ⟨g2, k16, none⟩ = _ := c16
        have HP' : Hid (Row (wr.drewN nq) g2 99 ((pz (ws b) k).map U)) := HP
        have HQ' : Hid (Row (wr.drewN nq) g1 99 ((List.replicate 64 0).map U)) := HQ
        have HBR' : Hid (Row (wr.drewN nq) w.heap.size 79 (b.map B)) := HBR
        have hbr' := below_drewN hbr nq
        clear c2 c7 c15 c16 HP HQ HBR hbr
        generalize wr.drewN nq = wq at *
        refine wp_region_tail 29 (by kernel_rfl) (by kernel_rfl) ?_
        simp only [List.take_succ_cons, List.take_zero, List.drop_succ_cons, List.drop_zero]
        repeat (quiet_step ((go_at_call 81; exact Calls.quiet_of (rot_at _ _ (by decide) _))))
        refine wpQuiet_nil ?_
        rintro _ ⟨nq2, rfl⟩
        have hB : sB x2 = rot x2 17 ^^^ rot x2 19 ^^^ shr x2 10 := rfl
        have hA : sA x15 = rot x15 7 ^^^ rot x15 18 ^^^ shr x15 3 := rfl
        have hS2 := i_shr x2 10
        have hS15 := i_shr x15 3
        rw [show (2 : Int) ^ 10 = 1024 from rfl] at hS2
        rw [show (2 : Int) ^ 3 = 8 from rfl] at hS15
        simp only [i_xor, hS2, hS15, ← hB, ← hA, i_add]
        rw [← HV.out]
        have hc := HP'.out.cell 0 k (by rw [pz_len _ _ (ws_len b) hk]; omega)
        generalize (pz (ws b) k).getD k 0 = old at *
        have hset := (HP'.out.drewN nq2).set k ((ws b).getD k 0)
        rw [pz_set _ _ (ws_len b) (by omega)] at hset
        generalize (ws b).getD k 0 = y at *
        have hf := (HP'.out.drewN nq2).frozen k
        have hq2 := (HQ'.out.drewN nq2).upd (Upd.setCell _ g2 k (U y)) HGG.out.1
        have hb2 := (HBR'.out.drewN nq2).upd (Upd.setCell _ g2 k (U y)) HGG.out.2.2.2
        have hbs := (below_drewN hbr' nq2).trans ((Upd.setCell _ g2 k (U y)).below HGG.out.2.1)
        have hc' : (wq.drewN nq2).cell? ⟨g2, k, none⟩ = some (U old) := hc
        have HSET := Lib.hid hset
        have HQ2 := Lib.hid hq2
        have HB2 := Lib.hid hb2
        clear hset hq2 hb2 hc hB hA hS2 hS15 e2 e7 e15 e16 c7' c16'
        generalize wq.drewN nq2 = wv at *
        unfold U at hc'
        go_wp2_with fail
        go_roundw
        case rel => exact ⟨k + 1, by go_num, by omega, HSET, HQ2, HB2, hbs⟩
        case measure => simp [intOf]; omega
      · obtain rfl : k = 64 := by omega
        have HP2 := HP.out
        rw [pz_full _ (ws_len b)] at HP2
        have HP := Lib.hid HP2
        have HL := Lib.hid (show ((ws b).map U).length = 64 by simp [ws_len])
        have HZL := Lib.hid (show ((List.replicate 64 (0 : UInt32)).map U).length = 64 from rfl)
        clear HP2
        obtain ⟨W, hW⟩ : ∃ W, ws b = W := ⟨_, rfl⟩
        rw [hW] at HP HL
        have HW := Lib.hid hW
        clear hW
        have HS := Lib.hid (show (Tryz.prog.info? 99).map (·.size) = some (W.map U).length by rw [HL.out]; exact size64)
        have HO := Lib.hid (show ((List.replicate 64 (0 : UInt32)).map U).length = (W.map U).length by rw [HL.out, HZL.out])
        go_wp2_with (first | (with_reducible refine load_row rfl _ _ rfl _ rfl 99 _ (.array 64 76) HP.out Tryz.underlying99 rfl HS.out ?_) | (with_reducible refine store_row rfl _ _ _ rfl _ _ rfl rfl 99 _ HQ.out HS.out HO.out (U_one _) ?_; intro w5 hr5 hu5))
        have HS2 : (Tryz.prog.info? 99).map (·.size) = some (W.map U).toArray.size := by rw [List.size_toArray]; exact HS.out
        refine bodyPost_ret (results_cell_row rfl _ _ g1 99 (W.map U).toArray _ (.array 64 76) rfl hr5 Tryz.underlying99 rfl HS2) rfl ⟨by rw [HW.out], ?_⟩
        exact hbr.trans (hu5.below HGG.out.2.2.1)
end Go.Proofs.YtkfhppbmnjmnoaaGreatDoor.W
