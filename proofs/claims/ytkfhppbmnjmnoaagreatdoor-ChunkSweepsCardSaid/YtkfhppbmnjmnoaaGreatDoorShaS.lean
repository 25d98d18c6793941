/- CONTRACTS of layer 3 (sha): the reference's sum of a text. -/
import Derived.Test.YtkfhppbmnjmnoaaGreatDoorShaE
import Derived.Test.YtkfhppbmnjmnoaaGreatDoorShaC
set_option linter.unusedSimpArgs false
set_option linter.unusedVariables false
namespace Go.Proofs.YtkfhppbmnjmnoaaGreatDoor.W
open Go.ChangeShapes Go.WideShapes Go.ChangeAt Go.RowKit
open Go.Proofs.YtkfhppbmnjmnoaaGreatDoor.P

theorem zeroB64 : (Tryz.prog.info? 79).map (·.zero) = some (some (.agg ((List.replicate 64 (0 : UInt8)).map B).toArray)) := by kernel_rfl

/-- what has been done of 'out = append(out, four bytes)' -/
structure RJ (wz : World) (gh q X base : Nat) (x : UInt32) (D : List UInt8) (v8 : Value) (v : World) (e0 e1 e2 e3 e4 e5 e6 e7 e8 e9 e10 e11 e12 e13 e14 e15 e16 e17 e18 e19 e20 e21 e22 : Bool) (x0 x1 x2 x3 x4 x5 x6 x7 x8 x9 x10 x11 x12 x13 x14 x15 x16 x17 x18 x19 x20 x21 x22 : Value) (gb : Nat) : Prop where
  bel : Below base wz v
  f0 : e0 = true → x0 = v8
  f1 : e1 = true → x1 = (.int .i64 (q : Int))
  f2 : e2 = true → x2 = (.pointer (some ⟨gh, q, none⟩))
  f3 : e3 = true → x3 = (.int .u32 (X : Int))
  f4 : e4 = true → x4 = (.int .u32 ((X : Int) / 16777216))
  f5 : e5 = true → x5 = (.int .u8 ((X : Int) / 16777216 % 256))
  f6 : e6 = true → x6 = (.int .i64 (q : Int))
  f7 : e7 = true → x7 = (.pointer (some ⟨gh, q, none⟩))
  f8 : e8 = true → x8 = (.int .u32 (X : Int))
  f9 : e9 = true → x9 = (.int .u32 ((X : Int) / 65536))
  f10 : e10 = true → x10 = (.int .u8 ((X : Int) / 65536 % 256))
  f11 : e11 = true → x11 = (.int .i64 (q : Int))
  f12 : e12 = true → x12 = (.pointer (some ⟨gh, q, none⟩))
  f13 : e13 = true → x13 = (.int .u32 (X : Int))
  f14 : e14 = true → x14 = (.int .u32 ((X : Int) / 256))
  f15 : e15 = true → x15 = (.int .u8 ((X : Int) / 256 % 256))
  f16 : e16 = true → x16 = (.int .i64 (q : Int))
  f17 : e17 = true → x17 = (.pointer (some ⟨gh, q, none⟩))
  f18 : e18 = true → x18 = (.int .u32 (X : Int))
  f19 : e19 = true → x19 = (.int .u8 ((X : Int) % 256))
  f20 : e20 = true → e21 = false → x20 = .slice (some ⟨gb, 0, none⟩) 4 4 ∧ Rd v (some ⟨gb, 0, none⟩) 4 4 (be4 x)
  fr : e21 = false → Fr v base v8 D
  f21 : e21 = true → Fr v base x21 (D ++ be4 x)
  f22 : e22 = true → x22 = x21
  g22 : e22 = false → x22 = v8
  s0 : e22 = true → e0 = true
  s21 : e22 = true → e21 = true

theorem be4_cells (x : UInt32) : #[Value.int .u8 ((x.toNat : Int) / 16777216 % 256), .int .u8 ((x.toNat : Int) / 65536 % 256), .int .u8 ((x.toNat : Int) / 256 % 256), .int .u8 ((x.toNat : Int) % 256)] = ((be4 x).map B).toArray := by
  have e : ∀ n : Nat, ((UInt8.ofNat n).toNat : Int) = (n : Int) % 256 := fun n => by rw [UInt8.toNat_ofNat']; rfl
  simp [be4, B]

set_option maxRecDepth 100000 in
set_option maxHeartbeats 4000000 in
theorem rsum_any (a : Option Addr) (len cap : Nat) (l : List UInt8) (w : World) (hr : Rd w a len cap l) (hmax : len ≤ 60000000000000) :
    Calls Tryz.prog 20 #[.slice a len cap] w fun e w' => e = .returned (.string (str (shaL l))) ∧ Below w.heap.size w w' := by
  obtain ⟨F, hF⟩ : ∃ F, full l = F := ⟨_, rfl⟩
  obtain ⟨N, hN⟩ : ∃ N, F.length = N := ⟨_, rfl⟩
  obtain ⟨M, hM⟩ : ∃ M, N / 64 = M := ⟨_, rfl⟩
  have hll := hr.hlen
  have hpl := padL_len l.length
  have hzn := zn_lt l.length
  have hNl : N = len + (zn l.length + 9) := by rw [← hN, ← hF, full, List.length_append, hpl, hll]
  have hN64 : N = 64 * M := by have := full_len l; rw [hF, hN] at this; omega
  have hNb : N ≤ 60000000000080 := by omega
  have hM64 : 64 * M ≤ 60000000000080 := by omega
  have hFp : l ++ padL (cl (len : Int)) = F := by rw [cl_nat len (by omega), ← hF, full, hll]
  have HFP := Lib.hid hFp
  have hN9 : 9 ≤ N := by omega
  have HF := Lib.hid hF
  have HN := Lib.hid hN
  have HR := Lib.hid hr
  obtain ⟨pl, hpp⟩ : ∃ p, padL (cl (len : Int)) = p := ⟨_, rfl⟩
  rw [hpp] at HFP
  obtain ⟨pn, hpn⟩ : ∃ n, pl.length = n := ⟨_, rfl⟩
  have hpn73 : pn ≤ 80 := by rw [← hpn, ← hpp, cl_nat len (by omega), padL_len]; have := zn_lt len; omega
  have HPN := Lib.hid hpn
  have HPP := Lib.hid hpp
  have HLL := Lib.hid hll
  subst hN64
  clear hF hN hr hpp hpn hll hpl hzn hNl hFp
  have HS8 := Lib.hid (show (Tryz.prog.info? 77).map (·.size) = some (H0.map U).length from size8)
  have HO8 := Lib.hid (show ((List.replicate 8 (0 : UInt32)).map U).length = (H0.map U).length from rfl)
  go_enter Tryz.func20, Tryz.ntmps20
  go_wp2_with (first
    | (at_builtin; refine append_rd rfl (.const (.slice none 0 0)) _ rfl w.heap.size _ [] rfl (Fr.nil _ _) a len cap l rfl HR.out (by simp; omega) (Nat.le_refl _) ?_; intro v1 w1 hf1 hb1 _; rw [List.nil_append] at hf1; have HF1 := Lib.hid hf1; have HB1 := Lib.hid hb1; clear hf1 hb1)
    | (go_at_call 54; refine (rpad_any (len : Int) w1).mono ?_; rw [HPP.out]; rintro e w2 ⟨v2, rfl, hf2, hb2⟩
       obtain ⟨a2, c2, hv2, hr2⟩ := hf2.form' pn HPN.out
       subst hv2
       have HR2 := Lib.hid hr2
       have HF12 := Lib.hid (HF1.out.kept hb2)
       have HB2 := Lib.hid (HB1.out.trans (hb2.mono HB1.out.size))
       clear hf2 hr2 hb2)
    | (at_builtin; refine append_rd rfl (.tmp 11) _ rfl w.heap.size _ l rfl HF12.out a2 pn c2 pl rfl HR2.out (by rw [HLL.out]; omega) HB2.out.size ?_; intro v3 w3 hf3 hb3 _; rw [HFP.out] at hf3; have HF3 := Lib.hid hf3; have HB3 := Lib.hid (HB2.out.trans hb3); clear hf3 hb3)
    | (go_at_call 55; refine (rstart_any w3).mono ?_; rintro e w4 ⟨rfl, hb4⟩; have HF4 := Lib.hid (HF3.out.kept hb4); have HB4 := Lib.hid (HB3.out.trans (hb4.mono HB3.out.size)); clear hb4)
    | (with_reducible refine alloc_row (o := ⟨some 4, _, _, _, _, _⟩) rfl _ rfl _ zero8 ?_; intro w5 hr5 hb5 hz5; have HR5 := Lib.hid hr5; clear hr5; have HZ5 := Lib.hid hz5; clear hz5; have HF5 := Lib.hid (HF4.out.kept hb5); have HB5 := Lib.hid hb5; clear hb5)
    | (with_reducible refine store_row (o := ⟨none, .store 77 _ _, _, _, _, _⟩) rfl _ _ _ rfl _ _ rfl rfl 77 _ HR5.out HS8.out HO8.out (U_one _) ?_; intro w6 hr6 hu6; have HR6 := Lib.hid hr6; clear hr6; have HU6 := Lib.hid hu6; clear hu6))
  have hFp : F ≠ [] := by intro h; have := HN.out; rw [h] at this; simp at this; omega
  obtain ⟨gF, cF, hvF, hcF, hgF, hgl⟩ := HF4.out.pos hFp
  rw [HN.out] at hvF hcF
  obtain ⟨aF, cF', hvF', hrF, -⟩ := HF5.out.form
  rw [HN.out, hvF] at hvF'
  simp only [Value.slice.injEq, true_and] at hvF'
  obtain ⟨rfl, rfl⟩ := hvF'
  rw [HN.out] at hrF
  subst hvF
  obtain ⟨gh, hgh⟩ : ∃ g, w4.heap.size = g := ⟨_, rfl⟩
  have hz5 := HZ5.out
  have hle4 := HB4.out.size
  have hb5 := HB5.out
  have hr6 := HR6.out
  have hu6 := HU6.out
  rw [hgh] at hgl hz5 hle4 hb5 hr6 hu6 ⊢
  have hrF6 := hrF.upd hu6 (fun b off he => by cases he; omega)
  have HBW6 := Lib.hid (show Below w.heap.size w w6 from (HB4.out.trans (hb5.mono (by omega))).trans (hu6.below (by omega)))
  have HZ6 := Lib.hid (show w6.heap.size = gh + 1 by rw [hu6.size, hz5])
  have HRF := Lib.hid hrF6
  have HRH := Lib.hid hr6
  have HGX := Lib.hid (show gF < gh ∧ w.heap.size ≤ gh from ⟨hgl, hle4⟩)
  clear hFp hcF hgF hgl hrF hz5 hle4 hb5 hr6 hu6 hrF6 HF1 HB1 HR2 HF12 HB2 HF3 HB3 HF4 HB4 HR5 HZ5 HF5 HB5 HR6 HU6 hgh HR HFP HPN HPP HLL hpn73 HS8 HO8
  obtain ⟨hs, hhs⟩ : ∃ f : Nat → List UInt32, (fun k => hb H0 F k) = f := ⟨_, rfl⟩
  have hs8 : ∀ k, (hs k).length = 8 := fun k => by rw [← hhs]; exact hb_len _ rfl _ _
  have hs0 : hs 0 = H0 := by rw [← hhs]; rfl
  have hsS : ∀ k, hs (k + 1) = blk (hs k) ((F.drop (64 * k)).take 64) := fun k => by rw [← hhs]; rfl
  have hsE : dig (hs M) = shaL l := by rw [← hhs, shaL, HF.out, HN.out, hM]
  have hrh0 := HRH.out
  rw [← hs0] at hrh0
  have HRH0 := Lib.hid hrh0
  have HS8 := Lib.hid hs8
  have HSS := Lib.hid hsS
  have HSE := Lib.hid hsE
  clear hhs hs8 hs0 hsS hsE hrh0 HRH HF hM
  go_loopw [5] (fun i wr => ∃ k : Nat, k ≤ M ∧ i = .int .i64 (64 * (k : Int)) ∧ Hid (Row wr gh 77 ((hs k).map U) ∧ Gw gh w6 wr)) (fun i _ => M - (intOf i / 64).toNat)
  case atStart => exact ⟨0, Nat.zero_le _, rfl, Lib.hid ⟨HRH0.out, Gw.refl _ _⟩⟩
  case round =>
    obtain ⟨k, hk, rfl, HI⟩ := hrel
    by_cases hlt : k < M
    · obtain ⟨wo, hwo⟩ : ∃ wo : World, wo = wr := ⟨_, rfl⟩
      subst hwo
      obtain ⟨L, hL⟩ : ∃ L, (F.drop (64 * k)).take 64 = L := ⟨_, rfl⟩
      have hLl : L.length = 64 := by rw [← hL, List.length_take, List.length_drop, HN.out]; omega
      have HLL := Lib.hid hLl
      have hLg : ∀ j, j < 64 → F.getD (64 * k + j) 0 = L.getD j 0 := fun j hj => by
        rw [← hL]; simp [hj]
      have HLG := Lib.hid hLg
      have HL := Lib.hid hL
      clear hLl hLg hL
      go_wp2_with (with_reducible refine alloc_row (o := ⟨some 6, _, _, _, _, _⟩) rfl _ rfl _ zeroB64 ?_; intro wx hrx hbx hzx)
      obtain ⟨hrh, hgw⟩ := HI.out
      have hgx : gh < wo.heap.size := hrh.lt
      have HGO := Lib.hid hgx
      have HS6 := Lib.hid (show w6.heap.size ≤ wo.heap.size from hgw.size)
      have HRHx := Lib.hid (hrh.below hbx hgx)
      have HGWx := Lib.hid (hgw.trans (Gw.of_below hbx))
      have HRFx := Lib.hid (HRF.out.gw (hgw.trans (Gw.of_below hbx)) (fun _ b off he => by cases he; have := HGX.out.1; omega))
      have HRX0 := Lib.hid (show Row wx wo.heap.size 79 ((bz L 64 0).map B) by rw [bz_zero]; exact hrx)
      clear hrh hgw hrx hbx hzx HI hgx
      obtain ⟨gx, hgx⟩ : ∃ g, wo.heap.size = g := ⟨_, rfl⟩
      rw [hgx] at HGO HS6 HRX0 ⊢
      have HGXE := Lib.hid hgx
      clear hgx
      go_loopw [7] (fun i wq => ∃ j : Nat, j ≤ 64 ∧ i = .int .i64 (j : Int) ∧ Hid (Row wq gx 79 ((bz L 64 j).map B) ∧ Upd wx wq gx)) (fun i _ => 64 - (intOf i).toNat)
      case atStart => exact ⟨0, by omega, rfl, Lib.hid ⟨HRX0.out, Upd.refl _ _⟩⟩
      case round =>
        obtain ⟨j, hj, rfl, HJ⟩ := hrel
        obtain ⟨hrx, hux⟩ := HJ.out
        by_cases hlj : j < 64
        · have hrf := HRFx.out.upd hux (fun b off he => by cases he; have := HGX.out.1; have := HGO.out; omega)
          have cF' : wr.cell? ⟨gF, 64 * k + j, none⟩ = some (.int .u8 ((L.getD j 0).toNat : Int)) := by
            obtain ⟨b, off, he, -, hc⟩ := hrf.lt_of (by omega)
            cases he
            have := hc (64 * k + j) (by omega)
            rw [Nat.zero_add, HLG.out j hlj] at this
            exact this
          have ck : wr.cell? ⟨gx, j, none⟩ = some (.int .u8 (((bz L 64 j).getD j 0).toNat : Int)) := hrx.cell 0 j (by rw [bz_len _ _ _ HLL.out hj]; exact hlj)
          have fk := hrx.frozen j
          have hset := hrx.set j (L.getD j 0)
          rw [bz_set _ _ _ HLL.out hlj] at hset
          have HJ2 := Lib.hid (show Row (wr.setCell ⟨gx, j, none⟩ (B (L.getD j 0))) gx 79 ((bz L 64 (j + 1)).map B) ∧ Upd wx (wr.setCell ⟨gx, j, none⟩ (B (L.getD j 0))) gx from ⟨hset, hux.trans (Upd.setCell _ _ _ _)⟩)
          unfold B at HJ2
          generalize (L.getD j 0).toNat = y at *
          generalize ((bz L 64 j).getD j 0).toNat = y0 at *
          clear hset hrx hux hrf HJ
          go_wp2_with fail
          go_roundw
          case rel => exact ⟨j + 1, by omega, by go_num, HJ2⟩
          case measure => simp [intOf]; omega
        · obtain rfl : j = 64 := by omega
          rw [bz_full _ _ HLL.out] at hrx
          have HRX := Lib.hid hrx
          have hgn : gh ≠ gx := by have := HGO.out; omega
          have HRH := Lib.hid (HRHx.out.upd hux hgn)
          have HGW := Lib.hid (HGWx.out.newer hux HS6.out)
          have HL8 := HS8.out k
          have HZ8 := Lib.hid (show (Tryz.prog.info? 77).map (·.size) = some ((hs k).map U).length by rw [List.length_map, HL8]; exact size8)
          have HZ64 := Lib.hid (show (Tryz.prog.info? 79).map (·.size) = some (L.map B).length by rw [List.length_map, HLL.out]; exact size64b)
          have HBL8 := Lib.hid (show (blk (hs k) L).length = 8 from blk_len _ _ HL8)
          have HZB := Lib.hid (show (Tryz.prog.info? 77).map (·.size) = some ((blk (hs k) L).map U).length by rw [List.length_map, HBL8.out]; exact size8)
          have HLE := Lib.hid (show ((hs k).map U).length = ((blk (hs k) L).map U).length by rw [List.length_map, List.length_map, HL8, HBL8.out])
          have HSK := Lib.hid (show blk (hs k) L = hs (k + 1) by rw [HSS.out, HL.out])
          clear hrx hux HJ HL8
          go_wp2_with (first
            | (with_reducible refine load_row (o := ⟨some 35, _, _, _, _, _⟩) rfl _ _ rfl _ rfl _ ((hs k).map U) _ HRH.out Tryz.underlying77 rfl HZ8.out ?_)
            | (with_reducible refine load_row (o := ⟨some 36, _, _, _, _, _⟩) rfl _ _ rfl _ rfl _ (L.map B) _ HRX.out Tryz.underlying79 rfl HZ64.out ?_)
            | (go_at_call 56; refine (rblock_any (hs k) L (HS8.out k) HLL.out wr).mono ?_; rintro e w8 ⟨rfl, hb8⟩; have HRH8 := Lib.hid (HRH.out.below hb8 HRH.out.lt); have HGW8 := Lib.hid (HGW.out.trans (Gw.of_below hb8)); clear hb8)
            | (with_reducible refine store_row (o := ⟨none, .store 77 _ _, _, _, _, _⟩) rfl _ _ _ rfl _ _ rfl rfl 77 _ HRH8.out HZB.out HLE.out (U_one _) ?_; intro w9 hr9 hu9; have HR9 := Lib.hid hr9; have HGW9 := Lib.hid (HGW8.out.trans (Gw.upd hu9)); clear hr9 hu9))
          have hr9 := HR9.out
          rw [HSK.out] at hr9
          have HR9' := Lib.hid hr9
          clear hr9
          go_roundw
          case rel => exact ⟨k + 1, by omega, vint (by omega), Lib.hid ⟨HR9'.out, HGW9.out⟩⟩
          case measure => simp [intOf]; omega
    · obtain rfl : k = M := by omega
      obtain ⟨hrh, hgw⟩ := HI.out
      have HRH := Lib.hid hrh
      have HBW := Lib.hid (HBW6.out.trans (hgw.below HGX.out.2 (by have := HZ6.out; have := HGX.out.2; omega)))
      have HGL := Lib.hid hrh.lt
      obtain ⟨H, hH⟩ : ∃ H, hs k = H := ⟨_, rfl⟩
      have h8 := HS8.out k
      rw [hH] at h8
      have HH := Lib.hid hH
      have H8 := Lib.hid h8
      obtain ⟨wo, hwo⟩ : ∃ wo : World, wo = wr := ⟨_, rfl⟩
      subst hwo
      clear hrh hgw HI hH h8
      go_wp2_with fail
      go_loopw [8, 9] (fun v i wq => ∃ (q : Nat), q ≤ 8 ∧ i = .int .i64 (q : Int) ∧ Hid (Fr wq wo.heap.size v (dig (H.take q)) ∧ Below wo.heap.size wo wq)) (fun _ i _ => 8 - (intOf i).toNat)
      case atStart => exact ⟨0, by omega, rfl, Lib.hid ⟨Fr.nil _ _, Below.refl _ _⟩⟩
      case round =>
        obtain ⟨q, hq, rfl, HJ⟩ := hrel
        obtain ⟨hfr, hbq⟩ := HJ.out
        by_cases hlq : q < 8
        · have hrow := HRH.out.below hbq HGL.out
          rw [HH.out] at hrow
          have cq : wr.cell? ⟨gh, q, none⟩ = some (U (H.getD q 0)) := hrow.cell 0 q (by rw [H8.out]; exact hlq)
          have hdq : dig (H.take (q + 1)) = dig (H.take q) ++ be4 (H.getD q 0) := by
            have hqq : q < H.length := by rw [H8.out]; exact hlq
            rw [List.take_succ_eq_append_getElem hqq]
            have eq : H.getD q 0 = H[q] := by simp [hqq]
            rw [eq]
            simp only [dig, List.flatMap_append, List.flatMap_cons, List.flatMap_nil, List.append_nil]
          have hlen : (dig (H.take q)).length = 4 * q := by rw [dig_len, List.length_take, H8.out]; omega
          have hb4 := be4_cells (H.getD q 0)
          obtain ⟨x, hx⟩ : ∃ x, H.getD q 0 = x := ⟨_, rfl⟩
          have HXQ := Lib.hid hx
          rw [hx] at cq hdq hb4
          have HD := Lib.hid hdq
          have HB4 := Lib.hid hb4
          have HLE := Lib.hid hlen
          have HFR := Lib.hid hfr
          have HBQ := Lib.hid hbq
          have hxl := x.toNat_lt
          obtain ⟨X, hX⟩ : ∃ X, x.toNat = X := ⟨_, rfl⟩
          have HXN := Lib.hid hX
          have HBZ := Lib.hid hbq.size
          obtain ⟨u8v, hu8v⟩ : ∃ v, v = u8 := ⟨_, rfl⟩
          subst hu8v
          unfold U at cq
          rw [hX] at cq hxl
          have HB4' := HB4.out
          rw [hX] at HB4'
          have HB5 := Lib.hid HB4'
          clear hfr hbq hrow hdq hlen hb4 hx hX HJ HB4 HB4'
          go_wp2_with fail
          refine wp_region_inv (by kernel_rfl) (by kernel_rfl) (fun a0 d a' v => ∃ x0 x1 x2 x3 x4 x5 x6 x7 x8 x9 x10 x11 x12 x13 x14 x15 x16 x17 x18 x19 x20 x21 x22 gb, a' = (((((((((((((((((((((((a0.put (some 42) x0).put (some 43) x1).put (some 44) x2).put (some 45) x3).put (some 46) x4).put (some 47) x5).put (some 48) x6).put (some 49) x7).put (some 50) x8).put (some 51) x9).put (some 52) x10).put (some 53) x11).put (some 54) x12).put (some 55) x13).put (some 56) x14).put (some 57) x15).put (some 58) x16).put (some 59) x17).put (some 60) x18).put (some 61) x19).put (some 62) x20).put (some 63) x21).put (some 8) x22) ∧
            RJ wr gh q X wo.heap.size x (dig (H.take q)) u8v v (d.getD 0 false) (d.getD 1 false) (d.getD 2 false) (d.getD 3 false) (d.getD 4 false) (d.getD 5 false) (d.getD 6 false) (d.getD 7 false) (d.getD 8 false) (d.getD 9 false) (d.getD 10 false) (d.getD 11 false) (d.getD 12 false) (d.getD 13 false) (d.getD 14 false) (d.getD 15 false) (d.getD 16 false) (d.getD 17 false) (d.getD 18 false) (d.getD 19 false) (d.getD 20 false) (d.getD 21 false) (d.getD 22 false) x0 x1 x2 x3 x4 x5 x6 x7 x8 x9 x10 x11 x12 x13 x14 x15 x16 x17 x18 x19 x20 x21 x22 gb) ?_ ?_ ?_
          · refine ⟨u42, u43, u44, u45, u46, u47, u48, u49, u50, u51, u52, u53, u54, u55, u56, u57, u58, u59, u60, u61, u62, u63, u8v, 0, by go_simp, ?_⟩
            exact { bel := (Below.refl _ _).drew, f0 := (by intro h; cases h), f1 := (by intro h; cases h), f2 := (by intro h; cases h), f3 := (by intro h; cases h), f4 := (by intro h; cases h), f5 := (by intro h; cases h), f6 := (by intro h; cases h), f7 := (by intro h; cases h), f8 := (by intro h; cases h), f9 := (by intro h; cases h), f10 := (by intro h; cases h), f11 := (by intro h; cases h), f12 := (by intro h; cases h), f13 := (by intro h; cases h), f14 := (by intro h; cases h), f15 := (by intro h; cases h), f16 := (by intro h; cases h), f17 := (by intro h; cases h), f18 := (by intro h; cases h), f19 := (by intro h; cases h), f20 := (by intro h; cases h), fr := fun _ => HFR.out.kept (Below.refl _ _).drew, f21 := (by intro h; cases h), f22 := (by intro h; cases h), g22 := fun _ => rfl, s0 := (by intro h; cases h), s21 := (by intro h; cases h) }
          · intro d a' v i o hs hI ho hu he M hM
            obtain ⟨x0, x1, x2, x3, x4, x5, x6, x7, x8, x9, x10, x11, x12, x13, x14, x15, x16, x17, x18, x19, x20, x21, x22, gb, rfl, xx⟩ := hI
            obtain ⟨dl⟩ := d
            match dl, hs with
            | [e0, e1, e2, e3, e4, e5, e6, e7, e8, e9, e10, e11, e12, e13, e14, e15, e16, e17, e18, e19, e20, e21, e22], _ =>
            have y : RJ wr gh q X wo.heap.size x (dig (H.take q)) u8v v e0 e1 e2 e3 e4 e5 e6 e7 e8 e9 e10 e11 e12 e13 e14 e15 e16 e17 e18 e19 e20 e21 e22 x0 x1 x2 x3 x4 x5 x6 x7 x8 x9 x10 x11 x12 x13 x14 x15 x16 x17 x18 x19 x20 x21 x22 gb := xx
            clear xx
            have hrow := HRH.out.below (HBQ.out.trans y.bel) HGL.out
            rw [HH.out] at hrow
            have cv : v.cell? ⟨gh, q, none⟩ = some (.int .u32 (X : Int)) := by
              have := hrow.cell 0 q (by rw [H8.out]; exact hlq)
              rw [HXQ.out] at this
              rw [← HXN.out]; exact this
            have hi : i < 23 := by have := (List.getElem?_eq_some_iff.1 ho).1; simpa using this
            have hi' : i = 0 ∨ i = 1 ∨ i = 2 ∨ i = 3 ∨ i = 4 ∨ i = 5 ∨ i = 6 ∨ i = 7 ∨ i = 8 ∨ i = 9 ∨ i = 10 ∨ i = 11 ∨ i = 12 ∨ i = 13 ∨ i = 14 ∨ i = 15 ∨ i = 16 ∨ i = 17 ∨ i = 18 ∨ i = 19 ∨ i = 20 ∨ i = 21 ∨ i = 22 := by omega
            rcases hi' with rfl | rfl | rfl | rfl | rfl | rfl | rfl | rfl | rfl | rfl | rfl | rfl | rfl | rfl | rfl | rfl | rfl | rfl | rfl | rfl | rfl | rfl | rfl
            all_goals
              simp only [List.getElem?_cons_zero, List.getElem?_cons_succ, Option.some.injEq] at ho
              subst ho
              simp [Region.binds] at he hu
            · have h22 : e22 = false := by cases hq : e22 with | false => rfl | true => (have := y.s0 hq; rw [hu] at this; cases this)
              have hv8 := y.g22 h22
              subst hv8
              refine val_list rfl x22 (by go_simp) ?_
              refine hM _ _ ⟨x22, x1, x2, x3, x4, x5, x6, x7, x8, x9, x10, x11, x12, x13, x14, x15, x16, x17, x18, x19, x20, x21, x22, gb, by go_simp, ?_⟩
              show RJ wr gh q X wo.heap.size x (dig (H.take q)) x22 v true e1 e2 e3 e4 e5 e6 e7 e8 e9 e10 e11 e12 e13 e14 e15 e16 e17 e18 e19 e20 e21 e22 x22 x1 x2 x3 x4 x5 x6 x7 x8 x9 x10 x11 x12 x13 x14 x15 x16 x17 x18 x19 x20 x21 x22 gb
              exact { y with f0 := fun _ => rfl, s0 := fun _ => rfl }
            · refine val_list rfl (.int .i64 (q : Int)) (by go_simp) ?_
              refine hM _ _ ⟨x0, (.int .i64 (q : Int)), x2, x3, x4, x5, x6, x7, x8, x9, x10, x11, x12, x13, x14, x15, x16, x17, x18, x19, x20, x21, x22, gb, by go_simp, ?_⟩
              show RJ wr gh q X wo.heap.size x (dig (H.take q)) u8v v e0 true e2 e3 e4 e5 e6 e7 e8 e9 e10 e11 e12 e13 e14 e15 e16 e17 e18 e19 e20 e21 e22 x0 (.int .i64 (q : Int)) x2 x3 x4 x5 x6 x7 x8 x9 x10 x11 x12 x13 x14 x15 x16 x17 x18 x19 x20 x21 x22 gb
              exact { y with f1 := fun _ => rfl }
            · have h1 := y.f1 (by first | exact he | exact he.1 | exact he.2 | exact he.2.1 | exact he.2 | exact he.2.2.1 | exact he.2.2 | exact he.2.2.2.1 | exact he.2.2.2 | exact he.2.2.2.2.1 | exact he.2.2.2.2 | exact he.2.2.2.2.2.1 | exact he.2.2.2.2.2 | exact he.2.2.2.2.2.2.1 | exact he.2.2.2.2.2.2 | exact he.2.2.2.2.2.2.2.1 | exact he.2.2.2.2.2.2.2 | exact he.2.2.2.2.2.2.2.2.1 | exact he.2.2.2.2.2.2.2.2 | exact he.2.2.2.2.2.2.2.2.2.1 | exact he.2.2.2.2.2.2.2.2.2 | exact he.2.2.2.2.2.2.2.2.2.2.1 | exact he.2.2.2.2.2.2.2.2.2.2 | exact he.2.2.2.2.2.2.2.2.2.2.2.1 | exact he.2.2.2.2.2.2.2.2.2.2.2 | exact he.2.2.2.2.2.2.2.2.2.2.2.2.1 | exact he.2.2.2.2.2.2.2.2.2.2.2.2 | exact he.2.2.2.2.2.2.2.2.2.2.2.2.2.1 | exact he.2.2.2.2.2.2.2.2.2.2.2.2.2 | exact he.2.2.2.2.2.2.2.2.2.2.2.2.2.2.1 | exact he.2.2.2.2.2.2.2.2.2.2.2.2.2.2 | exact he.2.2.2.2.2.2.2.2.2.2.2.2.2.2.2.1 | exact he.2.2.2.2.2.2.2.2.2.2.2.2.2.2.2 | exact he.2.2.2.2.2.2.2.2.2.2.2.2.2.2.2.2.1 | exact he.2.2.2.2.2.2.2.2.2.2.2.2.2.2.2.2 | exact he.2.2.2.2.2.2.2.2.2.2.2.2.2.2.2.2.2.1 | exact he.2.2.2.2.2.2.2.2.2.2.2.2.2.2.2.2.2 | exact he.2.2.2.2.2.2.2.2.2.2.2.2.2.2.2.2.2.2.1 | exact he.2.2.2.2.2.2.2.2.2.2.2.2.2.2.2.2.2.2 | exact he.2.2.2.2.2.2.2.2.2.2.2.2.2.2.2.2.2.2.2.1 | exact he.2.2.2.2.2.2.2.2.2.2.2.2.2.2.2.2.2.2.2 | exact he.2.2.2.2.2.2.2.2.2.2.2.2.2.2.2.2.2.2.2.2.1 | exact he.2.2.2.2.2.2.2.2.2.2.2.2.2.2.2.2.2.2.2.2 | exact he.2.2.2.2.2.2.2.2.2.2.2.2.2.2.2.2.2.2.2.2.2.1 | exact he.2.2.2.2.2.2.2.2.2.2.2.2.2.2.2.2.2.2.2.2.2 | exact he.2.2.2.2.2.2.2.2.2.2.2.2.2.2.2.2.2.2.2.2.2.2.1 | exact he.2.2.2.2.2.2.2.2.2.2.2.2.2.2.2.2.2.2.2.2.2.2 | exact he.2.2.2.2.2.2.2.2.2.2.2.2.2.2.2.2.2.2.2.2.2.2.2.1 | exact he.2.2.2.2.2.2.2.2.2.2.2.2.2.2.2.2.2.2.2.2.2.2.2 )
              subst h1
              refine val_list rfl (.pointer (some ⟨gh, q, none⟩)) (by go_simp) ?_
              refine hM _ _ ⟨x0, (.int .i64 (q : Int)), (.pointer (some ⟨gh, q, none⟩)), x3, x4, x5, x6, x7, x8, x9, x10, x11, x12, x13, x14, x15, x16, x17, x18, x19, x20, x21, x22, gb, by go_simp, ?_⟩
              show RJ wr gh q X wo.heap.size x (dig (H.take q)) u8v v e0 e1 true e3 e4 e5 e6 e7 e8 e9 e10 e11 e12 e13 e14 e15 e16 e17 e18 e19 e20 e21 e22 x0 (.int .i64 (q : Int)) (.pointer (some ⟨gh, q, none⟩)) x3 x4 x5 x6 x7 x8 x9 x10 x11 x12 x13 x14 x15 x16 x17 x18 x19 x20 x21 x22 gb
              exact { y with f2 := fun _ => rfl }
            · have h2 := y.f2 (by first | exact he | exact he.1 | exact he.2 | exact he.2.1 | exact he.2 | exact he.2.2.1 | exact he.2.2 | exact he.2.2.2.1 | exact he.2.2.2 | exact he.2.2.2.2.1 | exact he.2.2.2.2 | exact he.2.2.2.2.2.1 | exact he.2.2.2.2.2 | exact he.2.2.2.2.2.2.1 | exact he.2.2.2.2.2.2 | exact he.2.2.2.2.2.2.2.1 | exact he.2.2.2.2.2.2.2 | exact he.2.2.2.2.2.2.2.2.1 | exact he.2.2.2.2.2.2.2.2 | exact he.2.2.2.2.2.2.2.2.2.1 | exact he.2.2.2.2.2.2.2.2.2 | exact he.2.2.2.2.2.2.2.2.2.2.1 | exact he.2.2.2.2.2.2.2.2.2.2 | exact he.2.2.2.2.2.2.2.2.2.2.2.1 | exact he.2.2.2.2.2.2.2.2.2.2.2 | exact he.2.2.2.2.2.2.2.2.2.2.2.2.1 | exact he.2.2.2.2.2.2.2.2.2.2.2.2 | exact he.2.2.2.2.2.2.2.2.2.2.2.2.2.1 | exact he.2.2.2.2.2.2.2.2.2.2.2.2.2 | exact he.2.2.2.2.2.2.2.2.2.2.2.2.2.2.1 | exact he.2.2.2.2.2.2.2.2.2.2.2.2.2.2 | exact he.2.2.2.2.2.2.2.2.2.2.2.2.2.2.2.1 | exact he.2.2.2.2.2.2.2.2.2.2.2.2.2.2.2 | exact he.2.2.2.2.2.2.2.2.2.2.2.2.2.2.2.2.1 | exact he.2.2.2.2.2.2.2.2.2.2.2.2.2.2.2.2 | exact he.2.2.2.2.2.2.2.2.2.2.2.2.2.2.2.2.2.1 | exact he.2.2.2.2.2.2.2.2.2.2.2.2.2.2.2.2.2 | exact he.2.2.2.2.2.2.2.2.2.2.2.2.2.2.2.2.2.2.1 | exact he.2.2.2.2.2.2.2.2.2.2.2.2.2.2.2.2.2.2 | exact he.2.2.2.2.2.2.2.2.2.2.2.2.2.2.2.2.2.2.2.1 | exact he.2.2.2.2.2.2.2.2.2.2.2.2.2.2.2.2.2.2.2 | exact he.2.2.2.2.2.2.2.2.2.2.2.2.2.2.2.2.2.2.2.2.1 | exact he.2.2.2.2.2.2.2.2.2.2.2.2.2.2.2.2.2.2.2.2 | exact he.2.2.2.2.2.2.2.2.2.2.2.2.2.2.2.2.2.2.2.2.2.1 | exact he.2.2.2.2.2.2.2.2.2.2.2.2.2.2.2.2.2.2.2.2.2 | exact he.2.2.2.2.2.2.2.2.2.2.2.2.2.2.2.2.2.2.2.2.2.2.1 | exact he.2.2.2.2.2.2.2.2.2.2.2.2.2.2.2.2.2.2.2.2.2.2 | exact he.2.2.2.2.2.2.2.2.2.2.2.2.2.2.2.2.2.2.2.2.2.2.2.1 | exact he.2.2.2.2.2.2.2.2.2.2.2.2.2.2.2.2.2.2.2.2.2.2.2 )
              subst h2
              refine val_list rfl (.int .u32 (X : Int)) (by go_simp) ?_
              refine hM _ _ ⟨x0, x1, (.pointer (some ⟨gh, q, none⟩)), (.int .u32 (X : Int)), x4, x5, x6, x7, x8, x9, x10, x11, x12, x13, x14, x15, x16, x17, x18, x19, x20, x21, x22, gb, by go_simp, ?_⟩
              show RJ wr gh q X wo.heap.size x (dig (H.take q)) u8v v e0 e1 e2 true e4 e5 e6 e7 e8 e9 e10 e11 e12 e13 e14 e15 e16 e17 e18 e19 e20 e21 e22 x0 x1 (.pointer (some ⟨gh, q, none⟩)) (.int .u32 (X : Int)) x4 x5 x6 x7 x8 x9 x10 x11 x12 x13 x14 x15 x16 x17 x18 x19 x20 x21 x22 gb
              exact { y with f3 := fun _ => rfl }
            · have h3 := y.f3 (by first | exact he | exact he.1 | exact he.2 | exact he.2.1 | exact he.2 | exact he.2.2.1 | exact he.2.2 | exact he.2.2.2.1 | exact he.2.2.2 | exact he.2.2.2.2.1 | exact he.2.2.2.2 | exact he.2.2.2.2.2.1 | exact he.2.2.2.2.2 | exact he.2.2.2.2.2.2.1 | exact he.2.2.2.2.2.2 | exact he.2.2.2.2.2.2.2.1 | exact he.2.2.2.2.2.2.2 | exact he.2.2.2.2.2.2.2.2.1 | exact he.2.2.2.2.2.2.2.2 | exact he.2.2.2.2.2.2.2.2.2.1 | exact he.2.2.2.2.2.2.2.2.2 | exact he.2.2.2.2.2.2.2.2.2.2.1 | exact he.2.2.2.2.2.2.2.2.2.2 | exact he.2.2.2.2.2.2.2.2.2.2.2.1 | exact he.2.2.2.2.2.2.2.2.2.2.2 | exact he.2.2.2.2.2.2.2.2.2.2.2.2.1 | exact he.2.2.2.2.2.2.2.2.2.2.2.2 | exact he.2.2.2.2.2.2.2.2.2.2.2.2.2.1 | exact he.2.2.2.2.2.2.2.2.2.2.2.2.2 | exact he.2.2.2.2.2.2.2.2.2.2.2.2.2.2.1 | exact he.2.2.2.2.2.2.2.2.2.2.2.2.2.2 | exact he.2.2.2.2.2.2.2.2.2.2.2.2.2.2.2.1 | exact he.2.2.2.2.2.2.2.2.2.2.2.2.2.2.2 | exact he.2.2.2.2.2.2.2.2.2.2.2.2.2.2.2.2.1 | exact he.2.2.2.2.2.2.2.2.2.2.2.2.2.2.2.2 | exact he.2.2.2.2.2.2.2.2.2.2.2.2.2.2.2.2.2.1 | exact he.2.2.2.2.2.2.2.2.2.2.2.2.2.2.2.2.2 | exact he.2.2.2.2.2.2.2.2.2.2.2.2.2.2.2.2.2.2.1 | exact he.2.2.2.2.2.2.2.2.2.2.2.2.2.2.2.2.2.2 | exact he.2.2.2.2.2.2.2.2.2.2.2.2.2.2.2.2.2.2.2.1 | exact he.2.2.2.2.2.2.2.2.2.2.2.2.2.2.2.2.2.2.2 | exact he.2.2.2.2.2.2.2.2.2.2.2.2.2.2.2.2.2.2.2.2.1 | exact he.2.2.2.2.2.2.2.2.2.2.2.2.2.2.2.2.2.2.2.2 | exact he.2.2.2.2.2.2.2.2.2.2.2.2.2.2.2.2.2.2.2.2.2.1 | exact he.2.2.2.2.2.2.2.2.2.2.2.2.2.2.2.2.2.2.2.2.2 | exact he.2.2.2.2.2.2.2.2.2.2.2.2.2.2.2.2.2.2.2.2.2.2.1 | exact he.2.2.2.2.2.2.2.2.2.2.2.2.2.2.2.2.2.2.2.2.2.2 | exact he.2.2.2.2.2.2.2.2.2.2.2.2.2.2.2.2.2.2.2.2.2.2.2.1 | exact he.2.2.2.2.2.2.2.2.2.2.2.2.2.2.2.2.2.2.2.2.2.2.2 )
              subst h3
              refine val_list rfl (.int .u32 ((X : Int) / 16777216)) (by go_simp) ?_
              refine hM _ _ ⟨x0, x1, x2, (.int .u32 (X : Int)), (.int .u32 ((X : Int) / 16777216)), x5, x6, x7, x8, x9, x10, x11, x12, x13, x14, x15, x16, x17, x18, x19, x20, x21, x22, gb, by go_simp, ?_⟩
              show RJ wr gh q X wo.heap.size x (dig (H.take q)) u8v v e0 e1 e2 e3 true e5 e6 e7 e8 e9 e10 e11 e12 e13 e14 e15 e16 e17 e18 e19 e20 e21 e22 x0 x1 x2 (.int .u32 (X : Int)) (.int .u32 ((X : Int) / 16777216)) x5 x6 x7 x8 x9 x10 x11 x12 x13 x14 x15 x16 x17 x18 x19 x20 x21 x22 gb
              exact { y with f4 := fun _ => rfl }
            · have h4 := y.f4 (by first | exact he | exact he.1 | exact he.2 | exact he.2.1 | exact he.2 | exact he.2.2.1 | exact he.2.2 | exact he.2.2.2.1 | exact he.2.2.2 | exact he.2.2.2.2.1 | exact he.2.2.2.2 | exact he.2.2.2.2.2.1 | exact he.2.2.2.2.2 | exact he.2.2.2.2.2.2.1 | exact he.2.2.2.2.2.2 | exact he.2.2.2.2.2.2.2.1 | exact he.2.2.2.2.2.2.2 | exact he.2.2.2.2.2.2.2.2.1 | exact he.2.2.2.2.2.2.2.2 | exact he.2.2.2.2.2.2.2.2.2.1 | exact he.2.2.2.2.2.2.2.2.2 | exact he.2.2.2.2.2.2.2.2.2.2.1 | exact he.2.2.2.2.2.2.2.2.2.2 | exact he.2.2.2.2.2.2.2.2.2.2.2.1 | exact he.2.2.2.2.2.2.2.2.2.2.2 | exact he.2.2.2.2.2.2.2.2.2.2.2.2.1 | exact he.2.2.2.2.2.2.2.2.2.2.2.2 | exact he.2.2.2.2.2.2.2.2.2.2.2.2.2.1 | exact he.2.2.2.2.2.2.2.2.2.2.2.2.2 | exact he.2.2.2.2.2.2.2.2.2.2.2.2.2.2.1 | exact he.2.2.2.2.2.2.2.2.2.2.2.2.2.2 | exact he.2.2.2.2.2.2.2.2.2.2.2.2.2.2.2.1 | exact he.2.2.2.2.2.2.2.2.2.2.2.2.2.2.2 | exact he.2.2.2.2.2.2.2.2.2.2.2.2.2.2.2.2.1 | exact he.2.2.2.2.2.2.2.2.2.2.2.2.2.2.2.2 | exact he.2.2.2.2.2.2.2.2.2.2.2.2.2.2.2.2.2.1 | exact he.2.2.2.2.2.2.2.2.2.2.2.2.2.2.2.2.2 | exact he.2.2.2.2.2.2.2.2.2.2.2.2.2.2.2.2.2.2.1 | exact he.2.2.2.2.2.2.2.2.2.2.2.2.2.2.2.2.2.2 | exact he.2.2.2.2.2.2.2.2.2.2.2.2.2.2.2.2.2.2.2.1 | exact he.2.2.2.2.2.2.2.2.2.2.2.2.2.2.2.2.2.2.2 | exact he.2.2.2.2.2.2.2.2.2.2.2.2.2.2.2.2.2.2.2.2.1 | exact he.2.2.2.2.2.2.2.2.2.2.2.2.2.2.2.2.2.2.2.2 | exact he.2.2.2.2.2.2.2.2.2.2.2.2.2.2.2.2.2.2.2.2.2.1 | exact he.2.2.2.2.2.2.2.2.2.2.2.2.2.2.2.2.2.2.2.2.2 | exact he.2.2.2.2.2.2.2.2.2.2.2.2.2.2.2.2.2.2.2.2.2.2.1 | exact he.2.2.2.2.2.2.2.2.2.2.2.2.2.2.2.2.2.2.2.2.2.2 | exact he.2.2.2.2.2.2.2.2.2.2.2.2.2.2.2.2.2.2.2.2.2.2.2.1 | exact he.2.2.2.2.2.2.2.2.2.2.2.2.2.2.2.2.2.2.2.2.2.2.2 )
              subst h4
              refine val_list rfl (.int .u8 ((X : Int) / 16777216 % 256)) (by go_simp; simp [IntKind.wrap, IntKind.bits, IntKind.signed]) ?_
              refine hM _ _ ⟨x0, x1, x2, x3, (.int .u32 ((X : Int) / 16777216)), (.int .u8 ((X : Int) / 16777216 % 256)), x6, x7, x8, x9, x10, x11, x12, x13, x14, x15, x16, x17, x18, x19, x20, x21, x22, gb, by go_simp, ?_⟩
              show RJ wr gh q X wo.heap.size x (dig (H.take q)) u8v v e0 e1 e2 e3 e4 true e6 e7 e8 e9 e10 e11 e12 e13 e14 e15 e16 e17 e18 e19 e20 e21 e22 x0 x1 x2 x3 (.int .u32 ((X : Int) / 16777216)) (.int .u8 ((X : Int) / 16777216 % 256)) x6 x7 x8 x9 x10 x11 x12 x13 x14 x15 x16 x17 x18 x19 x20 x21 x22 gb
              exact { y with f5 := fun _ => rfl }
            · refine val_list rfl (.int .i64 (q : Int)) (by go_simp) ?_
              refine hM _ _ ⟨x0, x1, x2, x3, x4, x5, (.int .i64 (q : Int)), x7, x8, x9, x10, x11, x12, x13, x14, x15, x16, x17, x18, x19, x20, x21, x22, gb, by go_simp, ?_⟩
              show RJ wr gh q X wo.heap.size x (dig (H.take q)) u8v v e0 e1 e2 e3 e4 e5 true e7 e8 e9 e10 e11 e12 e13 e14 e15 e16 e17 e18 e19 e20 e21 e22 x0 x1 x2 x3 x4 x5 (.int .i64 (q : Int)) x7 x8 x9 x10 x11 x12 x13 x14 x15 x16 x17 x18 x19 x20 x21 x22 gb
              exact { y with f6 := fun _ => rfl }
            · have h6 := y.f6 (by first | exact he | exact he.1 | exact he.2 | exact he.2.1 | exact he.2 | exact he.2.2.1 | exact he.2.2 | exact he.2.2.2.1 | exact he.2.2.2 | exact he.2.2.2.2.1 | exact he.2.2.2.2 | exact he.2.2.2.2.2.1 | exact he.2.2.2.2.2 | exact he.2.2.2.2.2.2.1 | exact he.2.2.2.2.2.2 | exact he.2.2.2.2.2.2.2.1 | exact he.2.2.2.2.2.2.2 | exact he.2.2.2.2.2.2.2.2.1 | exact he.2.2.2.2.2.2.2.2 | exact he.2.2.2.2.2.2.2.2.2.1 | exact he.2.2.2.2.2.2.2.2.2 | exact he.2.2.2.2.2.2.2.2.2.2.1 | exact he.2.2.2.2.2.2.2.2.2.2 | exact he.2.2.2.2.2.2.2.2.2.2.2.1 | exact he.2.2.2.2.2.2.2.2.2.2.2 | exact he.2.2.2.2.2.2.2.2.2.2.2.2.1 | exact he.2.2.2.2.2.2.2.2.2.2.2.2 | exact he.2.2.2.2.2.2.2.2.2.2.2.2.2.1 | exact he.2.2.2.2.2.2.2.2.2.2.2.2.2 | exact he.2.2.2.2.2.2.2.2.2.2.2.2.2.2.1 | exact he.2.2.2.2.2.2.2.2.2.2.2.2.2.2 | exact he.2.2.2.2.2.2.2.2.2.2.2.2.2.2.2.1 | exact he.2.2.2.2.2.2.2.2.2.2.2.2.2.2.2 | exact he.2.2.2.2.2.2.2.2.2.2.2.2.2.2.2.2.1 | exact he.2.2.2.2.2.2.2.2.2.2.2.2.2.2.2.2 | exact he.2.2.2.2.2.2.2.2.2.2.2.2.2.2.2.2.2.1 | exact he.2.2.2.2.2.2.2.2.2.2.2.2.2.2.2.2.2 | exact he.2.2.2.2.2.2.2.2.2.2.2.2.2.2.2.2.2.2.1 | exact he.2.2.2.2.2.2.2.2.2.2.2.2.2.2.2.2.2.2 | exact he.2.2.2.2.2.2.2.2.2.2.2.2.2.2.2.2.2.2.2.1 | exact he.2.2.2.2.2.2.2.2.2.2.2.2.2.2.2.2.2.2.2 | exact he.2.2.2.2.2.2.2.2.2.2.2.2.2.2.2.2.2.2.2.2.1 | exact he.2.2.2.2.2.2.2.2.2.2.2.2.2.2.2.2.2.2.2.2 | exact he.2.2.2.2.2.2.2.2.2.2.2.2.2.2.2.2.2.2.2.2.2.1 | exact he.2.2.2.2.2.2.2.2.2.2.2.2.2.2.2.2.2.2.2.2.2 | exact he.2.2.2.2.2.2.2.2.2.2.2.2.2.2.2.2.2.2.2.2.2.2.1 | exact he.2.2.2.2.2.2.2.2.2.2.2.2.2.2.2.2.2.2.2.2.2.2 | exact he.2.2.2.2.2.2.2.2.2.2.2.2.2.2.2.2.2.2.2.2.2.2.2.1 | exact he.2.2.2.2.2.2.2.2.2.2.2.2.2.2.2.2.2.2.2.2.2.2.2 )
              subst h6
              refine val_list rfl (.pointer (some ⟨gh, q, none⟩)) (by go_simp) ?_
              refine hM _ _ ⟨x0, x1, x2, x3, x4, x5, (.int .i64 (q : Int)), (.pointer (some ⟨gh, q, none⟩)), x8, x9, x10, x11, x12, x13, x14, x15, x16, x17, x18, x19, x20, x21, x22, gb, by go_simp, ?_⟩
              show RJ wr gh q X wo.heap.size x (dig (H.take q)) u8v v e0 e1 e2 e3 e4 e5 e6 true e8 e9 e10 e11 e12 e13 e14 e15 e16 e17 e18 e19 e20 e21 e22 x0 x1 x2 x3 x4 x5 (.int .i64 (q : Int)) (.pointer (some ⟨gh, q, none⟩)) x8 x9 x10 x11 x12 x13 x14 x15 x16 x17 x18 x19 x20 x21 x22 gb
              exact { y with f7 := fun _ => rfl }
            · have h7 := y.f7 (by first | exact he | exact he.1 | exact he.2 | exact he.2.1 | exact he.2 | exact he.2.2.1 | exact he.2.2 | exact he.2.2.2.1 | exact he.2.2.2 | exact he.2.2.2.2.1 | exact he.2.2.2.2 | exact he.2.2.2.2.2.1 | exact he.2.2.2.2.2 | exact he.2.2.2.2.2.2.1 | exact he.2.2.2.2.2.2 | exact he.2.2.2.2.2.2.2.1 | exact he.2.2.2.2.2.2.2 | exact he.2.2.2.2.2.2.2.2.1 | exact he.2.2.2.2.2.2.2.2 | exact he.2.2.2.2.2.2.2.2.2.1 | exact he.2.2.2.2.2.2.2.2.2 | exact he.2.2.2.2.2.2.2.2.2.2.1 | exact he.2.2.2.2.2.2.2.2.2.2 | exact he.2.2.2.2.2.2.2.2.2.2.2.1 | exact he.2.2.2.2.2.2.2.2.2.2.2 | exact he.2.2.2.2.2.2.2.2.2.2.2.2.1 | exact he.2.2.2.2.2.2.2.2.2.2.2.2 | exact he.2.2.2.2.2.2.2.2.2.2.2.2.2.1 | exact he.2.2.2.2.2.2.2.2.2.2.2.2.2 | exact he.2.2.2.2.2.2.2.2.2.2.2.2.2.2.1 | exact he.2.2.2.2.2.2.2.2.2.2.2.2.2.2 | exact he.2.2.2.2.2.2.2.2.2.2.2.2.2.2.2.1 | exact he.2.2.2.2.2.2.2.2.2.2.2.2.2.2.2 | exact he.2.2.2.2.2.2.2.2.2.2.2.2.2.2.2.2.1 | exact he.2.2.2.2.2.2.2.2.2.2.2.2.2.2.2.2 | exact he.2.2.2.2.2.2.2.2.2.2.2.2.2.2.2.2.2.1 | exact he.2.2.2.2.2.2.2.2.2.2.2.2.2.2.2.2.2 | exact he.2.2.2.2.2.2.2.2.2.2.2.2.2.2.2.2.2.2.1 | exact he.2.2.2.2.2.2.2.2.2.2.2.2.2.2.2.2.2.2 | exact he.2.2.2.2.2.2.2.2.2.2.2.2.2.2.2.2.2.2.2.1 | exact he.2.2.2.2.2.2.2.2.2.2.2.2.2.2.2.2.2.2.2 | exact he.2.2.2.2.2.2.2.2.2.2.2.2.2.2.2.2.2.2.2.2.1 | exact he.2.2.2.2.2.2.2.2.2.2.2.2.2.2.2.2.2.2.2.2 | exact he.2.2.2.2.2.2.2.2.2.2.2.2.2.2.2.2.2.2.2.2.2.1 | exact he.2.2.2.2.2.2.2.2.2.2.2.2.2.2.2.2.2.2.2.2.2 | exact he.2.2.2.2.2.2.2.2.2.2.2.2.2.2.2.2.2.2.2.2.2.2.1 | exact he.2.2.2.2.2.2.2.2.2.2.2.2.2.2.2.2.2.2.2.2.2.2 | exact he.2.2.2.2.2.2.2.2.2.2.2.2.2.2.2.2.2.2.2.2.2.2.2.1 | exact he.2.2.2.2.2.2.2.2.2.2.2.2.2.2.2.2.2.2.2.2.2.2.2 )
              subst h7
              refine val_list rfl (.int .u32 (X : Int)) (by go_simp) ?_
              refine hM _ _ ⟨x0, x1, x2, x3, x4, x5, x6, (.pointer (some ⟨gh, q, none⟩)), (.int .u32 (X : Int)), x9, x10, x11, x12, x13, x14, x15, x16, x17, x18, x19, x20, x21, x22, gb, by go_simp, ?_⟩
              show RJ wr gh q X wo.heap.size x (dig (H.take q)) u8v v e0 e1 e2 e3 e4 e5 e6 e7 true e9 e10 e11 e12 e13 e14 e15 e16 e17 e18 e19 e20 e21 e22 x0 x1 x2 x3 x4 x5 x6 (.pointer (some ⟨gh, q, none⟩)) (.int .u32 (X : Int)) x9 x10 x11 x12 x13 x14 x15 x16 x17 x18 x19 x20 x21 x22 gb
              exact { y with f8 := fun _ => rfl }
            · have h8 := y.f8 (by first | exact he | exact he.1 | exact he.2 | exact he.2.1 | exact he.2 | exact he.2.2.1 | exact he.2.2 | exact he.2.2.2.1 | exact he.2.2.2 | exact he.2.2.2.2.1 | exact he.2.2.2.2 | exact he.2.2.2.2.2.1 | exact he.2.2.2.2.2 | exact he.2.2.2.2.2.2.1 | exact he.2.2.2.2.2.2 | exact he.2.2.2.2.2.2.2.1 | exact he.2.2.2.2.2.2.2 | exact he.2.2.2.2.2.2.2.2.1 | exact he.2.2.2.2.2.2.2.2 | exact he.2.2.2.2.2.2.2.2.2.1 | exact he.2.2.2.2.2.2.2.2.2 | exact he.2.2.2.2.2.2.2.2.2.2.1 | exact he.2.2.2.2.2.2.2.2.2.2 | exact he.2.2.2.2.2.2.2.2.2.2.2.1 | exact he.2.2.2.2.2.2.2.2.2.2.2 | exact he.2.2.2.2.2.2.2.2.2.2.2.2.1 | exact he.2.2.2.2.2.2.2.2.2.2.2.2 | exact he.2.2.2.2.2.2.2.2.2.2.2.2.2.1 | exact he.2.2.2.2.2.2.2.2.2.2.2.2.2 | exact he.2.2.2.2.2.2.2.2.2.2.2.2.2.2.1 | exact he.2.2.2.2.2.2.2.2.2.2.2.2.2.2 | exact he.2.2.2.2.2.2.2.2.2.2.2.2.2.2.2.1 | exact he.2.2.2.2.2.2.2.2.2.2.2.2.2.2.2 | exact he.2.2.2.2.2.2.2.2.2.2.2.2.2.2.2.2.1 | exact he.2.2.2.2.2.2.2.2.2.2.2.2.2.2.2.2 | exact he.2.2.2.2.2.2.2.2.2.2.2.2.2.2.2.2.2.1 | exact he.2.2.2.2.2.2.2.2.2.2.2.2.2.2.2.2.2 | exact he.2.2.2.2.2.2.2.2.2.2.2.2.2.2.2.2.2.2.1 | exact he.2.2.2.2.2.2.2.2.2.2.2.2.2.2.2.2.2.2 | exact he.2.2.2.2.2.2.2.2.2.2.2.2.2.2.2.2.2.2.2.1 | exact he.2.2.2.2.2.2.2.2.2.2.2.2.2.2.2.2.2.2.2 | exact he.2.2.2.2.2.2.2.2.2.2.2.2.2.2.2.2.2.2.2.2.1 | exact he.2.2.2.2.2.2.2.2.2.2.2.2.2.2.2.2.2.2.2.2 | exact he.2.2.2.2.2.2.2.2.2.2.2.2.2.2.2.2.2.2.2.2.2.1 | exact he.2.2.2.2.2.2.2.2.2.2.2.2.2.2.2.2.2.2.2.2.2 | exact he.2.2.2.2.2.2.2.2.2.2.2.2.2.2.2.2.2.2.2.2.2.2.1 | exact he.2.2.2.2.2.2.2.2.2.2.2.2.2.2.2.2.2.2.2.2.2.2 | exact he.2.2.2.2.2.2.2.2.2.2.2.2.2.2.2.2.2.2.2.2.2.2.2.1 | exact he.2.2.2.2.2.2.2.2.2.2.2.2.2.2.2.2.2.2.2.2.2.2.2 )
              subst h8
              refine val_list rfl (.int .u32 ((X : Int) / 65536)) (by go_simp) ?_
              refine hM _ _ ⟨x0, x1, x2, x3, x4, x5, x6, x7, (.int .u32 (X : Int)), (.int .u32 ((X : Int) / 65536)), x10, x11, x12, x13, x14, x15, x16, x17, x18, x19, x20, x21, x22, gb, by go_simp, ?_⟩
              show RJ wr gh q X wo.heap.size x (dig (H.take q)) u8v v e0 e1 e2 e3 e4 e5 e6 e7 e8 true e10 e11 e12 e13 e14 e15 e16 e17 e18 e19 e20 e21 e22 x0 x1 x2 x3 x4 x5 x6 x7 (.int .u32 (X : Int)) (.int .u32 ((X : Int) / 65536)) x10 x11 x12 x13 x14 x15 x16 x17 x18 x19 x20 x21 x22 gb
              exact { y with f9 := fun _ => rfl }
            · have h9 := y.f9 (by first | exact he | exact he.1 | exact he.2 | exact he.2.1 | exact he.2 | exact he.2.2.1 | exact he.2.2 | exact he.2.2.2.1 | exact he.2.2.2 | exact he.2.2.2.2.1 | exact he.2.2.2.2 | exact he.2.2.2.2.2.1 | exact he.2.2.2.2.2 | exact he.2.2.2.2.2.2.1 | exact he.2.2.2.2.2.2 | exact he.2.2.2.2.2.2.2.1 | exact he.2.2.2.2.2.2.2 | exact he.2.2.2.2.2.2.2.2.1 | exact he.2.2.2.2.2.2.2.2 | exact he.2.2.2.2.2.2.2.2.2.1 | exact he.2.2.2.2.2.2.2.2.2 | exact he.2.2.2.2.2.2.2.2.2.2.1 | exact he.2.2.2.2.2.2.2.2.2.2 | exact he.2.2.2.2.2.2.2.2.2.2.2.1 | exact he.2.2.2.2.2.2.2.2.2.2.2 | exact he.2.2.2.2.2.2.2.2.2.2.2.2.1 | exact he.2.2.2.2.2.2.2.2.2.2.2.2 | exact he.2.2.2.2.2.2.2.2.2.2.2.2.2.1 | exact he.2.2.2.2.2.2.2.2.2.2.2.2.2 | exact he.2.2.2.2.2.2.2.2.2.2.2.2.2.2.1 | exact he.2.2.2.2.2.2.2.2.2.2.2.2.2.2 | exact he.2.2.2.2.2.2.2.2.2.2.2.2.2.2.2.1 | exact he.2.2.2.2.2.2.2.2.2.2.2.2.2.2.2 | exact he.2.2.2.2.2.2.2.2.2.2.2.2.2.2.2.2.1 | exact he.2.2.2.2.2.2.2.2.2.2.2.2.2.2.2.2 | exact he.2.2.2.2.2.2.2.2.2.2.2.2.2.2.2.2.2.1 | exact he.2.2.2.2.2.2.2.2.2.2.2.2.2.2.2.2.2 | exact he.2.2.2.2.2.2.2.2.2.2.2.2.2.2.2.2.2.2.1 | exact he.2.2.2.2.2.2.2.2.2.2.2.2.2.2.2.2.2.2 | exact he.2.2.2.2.2.2.2.2.2.2.2.2.2.2.2.2.2.2.2.1 | exact he.2.2.2.2.2.2.2.2.2.2.2.2.2.2.2.2.2.2.2 | exact he.2.2.2.2.2.2.2.2.2.2.2.2.2.2.2.2.2.2.2.2.1 | exact he.2.2.2.2.2.2.2.2.2.2.2.2.2.2.2.2.2.2.2.2 | exact he.2.2.2.2.2.2.2.2.2.2.2.2.2.2.2.2.2.2.2.2.2.1 | exact he.2.2.2.2.2.2.2.2.2.2.2.2.2.2.2.2.2.2.2.2.2 | exact he.2.2.2.2.2.2.2.2.2.2.2.2.2.2.2.2.2.2.2.2.2.2.1 | exact he.2.2.2.2.2.2.2.2.2.2.2.2.2.2.2.2.2.2.2.2.2.2 | exact he.2.2.2.2.2.2.2.2.2.2.2.2.2.2.2.2.2.2.2.2.2.2.2.1 | exact he.2.2.2.2.2.2.2.2.2.2.2.2.2.2.2.2.2.2.2.2.2.2.2 )
              subst h9
              refine val_list rfl (.int .u8 ((X : Int) / 65536 % 256)) (by go_simp; simp [IntKind.wrap, IntKind.bits, IntKind.signed]) ?_
              refine hM _ _ ⟨x0, x1, x2, x3, x4, x5, x6, x7, x8, (.int .u32 ((X : Int) / 65536)), (.int .u8 ((X : Int) / 65536 % 256)), x11, x12, x13, x14, x15, x16, x17, x18, x19, x20, x21, x22, gb, by go_simp, ?_⟩
              show RJ wr gh q X wo.heap.size x (dig (H.take q)) u8v v e0 e1 e2 e3 e4 e5 e6 e7 e8 e9 true e11 e12 e13 e14 e15 e16 e17 e18 e19 e20 e21 e22 x0 x1 x2 x3 x4 x5 x6 x7 x8 (.int .u32 ((X : Int) / 65536)) (.int .u8 ((X : Int) / 65536 % 256)) x11 x12 x13 x14 x15 x16 x17 x18 x19 x20 x21 x22 gb
              exact { y with f10 := fun _ => rfl }
            · refine val_list rfl (.int .i64 (q : Int)) (by go_simp) ?_
              refine hM _ _ ⟨x0, x1, x2, x3, x4, x5, x6, x7, x8, x9, x10, (.int .i64 (q : Int)), x12, x13, x14, x15, x16, x17, x18, x19, x20, x21, x22, gb, by go_simp, ?_⟩
              show RJ wr gh q X wo.heap.size x (dig (H.take q)) u8v v e0 e1 e2 e3 e4 e5 e6 e7 e8 e9 e10 true e12 e13 e14 e15 e16 e17 e18 e19 e20 e21 e22 x0 x1 x2 x3 x4 x5 x6 x7 x8 x9 x10 (.int .i64 (q : Int)) x12 x13 x14 x15 x16 x17 x18 x19 x20 x21 x22 gb
              exact { y with f11 := fun _ => rfl }
            · have h11 := y.f11 (by first | exact he | exact he.1 | exact he.2 | exact he.2.1 | exact he.2 | exact he.2.2.1 | exact he.2.2 | exact he.2.2.2.1 | exact he.2.2.2 | exact he.2.2.2.2.1 | exact he.2.2.2.2 | exact he.2.2.2.2.2.1 | exact he.2.2.2.2.2 | exact he.2.2.2.2.2.2.1 | exact he.2.2.2.2.2.2 | exact he.2.2.2.2.2.2.2.1 | exact he.2.2.2.2.2.2.2 | exact he.2.2.2.2.2.2.2.2.1 | exact he.2.2.2.2.2.2.2.2 | exact he.2.2.2.2.2.2.2.2.2.1 | exact he.2.2.2.2.2.2.2.2.2 | exact he.2.2.2.2.2.2.2.2.2.2.1 | exact he.2.2.2.2.2.2.2.2.2.2 | exact he.2.2.2.2.2.2.2.2.2.2.2.1 | exact he.2.2.2.2.2.2.2.2.2.2.2 | exact he.2.2.2.2.2.2.2.2.2.2.2.2.1 | exact he.2.2.2.2.2.2.2.2.2.2.2.2 | exact he.2.2.2.2.2.2.2.2.2.2.2.2.2.1 | exact he.2.2.2.2.2.2.2.2.2.2.2.2.2 | exact he.2.2.2.2.2.2.2.2.2.2.2.2.2.2.1 | exact he.2.2.2.2.2.2.2.2.2.2.2.2.2.2 | exact he.2.2.2.2.2.2.2.2.2.2.2.2.2.2.2.1 | exact he.2.2.2.2.2.2.2.2.2.2.2.2.2.2.2 | exact he.2.2.2.2.2.2.2.2.2.2.2.2.2.2.2.2.1 | exact he.2.2.2.2.2.2.2.2.2.2.2.2.2.2.2.2 | exact he.2.2.2.2.2.2.2.2.2.2.2.2.2.2.2.2.2.1 | exact he.2.2.2.2.2.2.2.2.2.2.2.2.2.2.2.2.2 | exact he.2.2.2.2.2.2.2.2.2.2.2.2.2.2.2.2.2.2.1 | exact he.2.2.2.2.2.2.2.2.2.2.2.2.2.2.2.2.2.2 | exact he.2.2.2.2.2.2.2.2.2.2.2.2.2.2.2.2.2.2.2.1 | exact he.2.2.2.2.2.2.2.2.2.2.2.2.2.2.2.2.2.2.2 | exact he.2.2.2.2.2.2.2.2.2.2.2.2.2.2.2.2.2.2.2.2.1 | exact he.2.2.2.2.2.2.2.2.2.2.2.2.2.2.2.2.2.2.2.2 | exact he.2.2.2.2.2.2.2.2.2.2.2.2.2.2.2.2.2.2.2.2.2.1 | exact he.2.2.2.2.2.2.2.2.2.2.2.2.2.2.2.2.2.2.2.2.2 | exact he.2.2.2.2.2.2.2.2.2.2.2.2.2.2.2.2.2.2.2.2.2.2.1 | exact he.2.2.2.2.2.2.2.2.2.2.2.2.2.2.2.2.2.2.2.2.2.2 | exact he.2.2.2.2.2.2.2.2.2.2.2.2.2.2.2.2.2.2.2.2.2.2.2.1 | exact he.2.2.2.2.2.2.2.2.2.2.2.2.2.2.2.2.2.2.2.2.2.2.2 )
              subst h11
              refine val_list rfl (.pointer (some ⟨gh, q, none⟩)) (by go_simp) ?_
              refine hM _ _ ⟨x0, x1, x2, x3, x4, x5, x6, x7, x8, x9, x10, (.int .i64 (q : Int)), (.pointer (some ⟨gh, q, none⟩)), x13, x14, x15, x16, x17, x18, x19, x20, x21, x22, gb, by go_simp, ?_⟩
              show RJ wr gh q X wo.heap.size x (dig (H.take q)) u8v v e0 e1 e2 e3 e4 e5 e6 e7 e8 e9 e10 e11 true e13 e14 e15 e16 e17 e18 e19 e20 e21 e22 x0 x1 x2 x3 x4 x5 x6 x7 x8 x9 x10 (.int .i64 (q : Int)) (.pointer (some ⟨gh, q, none⟩)) x13 x14 x15 x16 x17 x18 x19 x20 x21 x22 gb
              exact { y with f12 := fun _ => rfl }
            · have h12 := y.f12 (by first | exact he | exact he.1 | exact he.2 | exact he.2.1 | exact he.2 | exact he.2.2.1 | exact he.2.2 | exact he.2.2.2.1 | exact he.2.2.2 | exact he.2.2.2.2.1 | exact he.2.2.2.2 | exact he.2.2.2.2.2.1 | exact he.2.2.2.2.2 | exact he.2.2.2.2.2.2.1 | exact he.2.2.2.2.2.2 | exact he.2.2.2.2.2.2.2.1 | exact he.2.2.2.2.2.2.2 | exact he.2.2.2.2.2.2.2.2.1 | exact he.2.2.2.2.2.2.2.2 | exact he.2.2.2.2.2.2.2.2.2.1 | exact he.2.2.2.2.2.2.2.2.2 | exact he.2.2.2.2.2.2.2.2.2.2.1 | exact he.2.2.2.2.2.2.2.2.2.2 | exact he.2.2.2.2.2.2.2.2.2.2.2.1 | exact he.2.2.2.2.2.2.2.2.2.2.2 | exact he.2.2.2.2.2.2.2.2.2.2.2.2.1 | exact he.2.2.2.2.2.2.2.2.2.2.2.2 | exact he.2.2.2.2.2.2.2.2.2.2.2.2.2.1 | exact he.2.2.2.2.2.2.2.2.2.2.2.2.2 | exact he.2.2.2.2.2.2.2.2.2.2.2.2.2.2.1 | exact he.2.2.2.2.2.2.2.2.2.2.2.2.2.2 | exact he.2.2.2.2.2.2.2.2.2.2.2.2.2.2.2.1 | exact he.2.2.2.2.2.2.2.2.2.2.2.2.2.2.2 | exact he.2.2.2.2.2.2.2.2.2.2.2.2.2.2.2.2.1 | exact he.2.2.2.2.2.2.2.2.2.2.2.2.2.2.2.2 | exact he.2.2.2.2.2.2.2.2.2.2.2.2.2.2.2.2.2.1 | exact he.2.2.2.2.2.2.2.2.2.2.2.2.2.2.2.2.2 | exact he.2.2.2.2.2.2.2.2.2.2.2.2.2.2.2.2.2.2.1 | exact he.2.2.2.2.2.2.2.2.2.2.2.2.2.2.2.2.2.2 | exact he.2.2.2.2.2.2.2.2.2.2.2.2.2.2.2.2.2.2.2.1 | exact he.2.2.2.2.2.2.2.2.2.2.2.2.2.2.2.2.2.2.2 | exact he.2.2.2.2.2.2.2.2.2.2.2.2.2.2.2.2.2.2.2.2.1 | exact he.2.2.2.2.2.2.2.2.2.2.2.2.2.2.2.2.2.2.2.2 | exact he.2.2.2.2.2.2.2.2.2.2.2.2.2.2.2.2.2.2.2.2.2.1 | exact he.2.2.2.2.2.2.2.2.2.2.2.2.2.2.2.2.2.2.2.2.2 | exact he.2.2.2.2.2.2.2.2.2.2.2.2.2.2.2.2.2.2.2.2.2.2.1 | exact he.2.2.2.2.2.2.2.2.2.2.2.2.2.2.2.2.2.2.2.2.2.2 | exact he.2.2.2.2.2.2.2.2.2.2.2.2.2.2.2.2.2.2.2.2.2.2.2.1 | exact he.2.2.2.2.2.2.2.2.2.2.2.2.2.2.2.2.2.2.2.2.2.2.2 )
              subst h12
              refine val_list rfl (.int .u32 (X : Int)) (by go_simp) ?_
              refine hM _ _ ⟨x0, x1, x2, x3, x4, x5, x6, x7, x8, x9, x10, x11, (.pointer (some ⟨gh, q, none⟩)), (.int .u32 (X : Int)), x14, x15, x16, x17, x18, x19, x20, x21, x22, gb, by go_simp, ?_⟩
              show RJ wr gh q X wo.heap.size x (dig (H.take q)) u8v v e0 e1 e2 e3 e4 e5 e6 e7 e8 e9 e10 e11 e12 true e14 e15 e16 e17 e18 e19 e20 e21 e22 x0 x1 x2 x3 x4 x5 x6 x7 x8 x9 x10 x11 (.pointer (some ⟨gh, q, none⟩)) (.int .u32 (X : Int)) x14 x15 x16 x17 x18 x19 x20 x21 x22 gb
              exact { y with f13 := fun _ => rfl }
            · have h13 := y.f13 (by first | exact he | exact he.1 | exact he.2 | exact he.2.1 | exact he.2 | exact he.2.2.1 | exact he.2.2 | exact he.2.2.2.1 | exact he.2.2.2 | exact he.2.2.2.2.1 | exact he.2.2.2.2 | exact he.2.2.2.2.2.1 | exact he.2.2.2.2.2 | exact he.2.2.2.2.2.2.1 | exact he.2.2.2.2.2.2 | exact he.2.2.2.2.2.2.2.1 | exact he.2.2.2.2.2.2.2 | exact he.2.2.2.2.2.2.2.2.1 | exact he.2.2.2.2.2.2.2.2 | exact he.2.2.2.2.2.2.2.2.2.1 | exact he.2.2.2.2.2.2.2.2.2 | exact he.2.2.2.2.2.2.2.2.2.2.1 | exact he.2.2.2.2.2.2.2.2.2.2 | exact he.2.2.2.2.2.2.2.2.2.2.2.1 | exact he.2.2.2.2.2.2.2.2.2.2.2 | exact he.2.2.2.2.2.2.2.2.2.2.2.2.1 | exact he.2.2.2.2.2.2.2.2.2.2.2.2 | exact he.2.2.2.2.2.2.2.2.2.2.2.2.2.1 | exact he.2.2.2.2.2.2.2.2.2.2.2.2.2 | exact he.2.2.2.2.2.2.2.2.2.2.2.2.2.2.1 | exact he.2.2.2.2.2.2.2.2.2.2.2.2.2.2 | exact he.2.2.2.2.2.2.2.2.2.2.2.2.2.2.2.1 | exact he.2.2.2.2.2.2.2.2.2.2.2.2.2.2.2 | exact he.2.2.2.2.2.2.2.2.2.2.2.2.2.2.2.2.1 | exact he.2.2.2.2.2.2.2.2.2.2.2.2.2.2.2.2 | exact he.2.2.2.2.2.2.2.2.2.2.2.2.2.2.2.2.2.1 | exact he.2.2.2.2.2.2.2.2.2.2.2.2.2.2.2.2.2 | exact he.2.2.2.2.2.2.2.2.2.2.2.2.2.2.2.2.2.2.1 | exact he.2.2.2.2.2.2.2.2.2.2.2.2.2.2.2.2.2.2 | exact he.2.2.2.2.2.2.2.2.2.2.2.2.2.2.2.2.2.2.2.1 | exact he.2.2.2.2.2.2.2.2.2.2.2.2.2.2.2.2.2.2.2 | exact he.2.2.2.2.2.2.2.2.2.2.2.2.2.2.2.2.2.2.2.2.1 | exact he.2.2.2.2.2.2.2.2.2.2.2.2.2.2.2.2.2.2.2.2 | exact he.2.2.2.2.2.2.2.2.2.2.2.2.2.2.2.2.2.2.2.2.2.1 | exact he.2.2.2.2.2.2.2.2.2.2.2.2.2.2.2.2.2.2.2.2.2 | exact he.2.2.2.2.2.2.2.2.2.2.2.2.2.2.2.2.2.2.2.2.2.2.1 | exact he.2.2.2.2.2.2.2.2.2.2.2.2.2.2.2.2.2.2.2.2.2.2 | exact he.2.2.2.2.2.2.2.2.2.2.2.2.2.2.2.2.2.2.2.2.2.2.2.1 | exact he.2.2.2.2.2.2.2.2.2.2.2.2.2.2.2.2.2.2.2.2.2.2.2 )
              subst h13
              refine val_list rfl (.int .u32 ((X : Int) / 256)) (by go_simp) ?_
              refine hM _ _ ⟨x0, x1, x2, x3, x4, x5, x6, x7, x8, x9, x10, x11, x12, (.int .u32 (X : Int)), (.int .u32 ((X : Int) / 256)), x15, x16, x17, x18, x19, x20, x21, x22, gb, by go_simp, ?_⟩
              show RJ wr gh q X wo.heap.size x (dig (H.take q)) u8v v e0 e1 e2 e3 e4 e5 e6 e7 e8 e9 e10 e11 e12 e13 true e15 e16 e17 e18 e19 e20 e21 e22 x0 x1 x2 x3 x4 x5 x6 x7 x8 x9 x10 x11 x12 (.int .u32 (X : Int)) (.int .u32 ((X : Int) / 256)) x15 x16 x17 x18 x19 x20 x21 x22 gb
              exact { y with f14 := fun _ => rfl }
            · have h14 := y.f14 (by first | exact he | exact he.1 | exact he.2 | exact he.2.1 | exact he.2 | exact he.2.2.1 | exact he.2.2 | exact he.2.2.2.1 | exact he.2.2.2 | exact he.2.2.2.2.1 | exact he.2.2.2.2 | exact he.2.2.2.2.2.1 | exact he.2.2.2.2.2 | exact he.2.2.2.2.2.2.1 | exact he.2.2.2.2.2.2 | exact he.2.2.2.2.2.2.2.1 | exact he.2.2.2.2.2.2.2 | exact he.2.2.2.2.2.2.2.2.1 | exact he.2.2.2.2.2.2.2.2 | exact he.2.2.2.2.2.2.2.2.2.1 | exact he.2.2.2.2.2.2.2.2.2 | exact he.2.2.2.2.2.2.2.2.2.2.1 | exact he.2.2.2.2.2.2.2.2.2.2 | exact he.2.2.2.2.2.2.2.2.2.2.2.1 | exact he.2.2.2.2.2.2.2.2.2.2.2 | exact he.2.2.2.2.2.2.2.2.2.2.2.2.1 | exact he.2.2.2.2.2.2.2.2.2.2.2.2 | exact he.2.2.2.2.2.2.2.2.2.2.2.2.2.1 | exact he.2.2.2.2.2.2.2.2.2.2.2.2.2 | exact he.2.2.2.2.2.2.2.2.2.2.2.2.2.2.1 | exact he.2.2.2.2.2.2.2.2.2.2.2.2.2.2 | exact he.2.2.2.2.2.2.2.2.2.2.2.2.2.2.2.1 | exact he.2.2.2.2.2.2.2.2.2.2.2.2.2.2.2 | exact he.2.2.2.2.2.2.2.2.2.2.2.2.2.2.2.2.1 | exact he.2.2.2.2.2.2.2.2.2.2.2.2.2.2.2.2 | exact he.2.2.2.2.2.2.2.2.2.2.2.2.2.2.2.2.2.1 | exact he.2.2.2.2.2.2.2.2.2.2.2.2.2.2.2.2.2 | exact he.2.2.2.2.2.2.2.2.2.2.2.2.2.2.2.2.2.2.1 | exact he.2.2.2.2.2.2.2.2.2.2.2.2.2.2.2.2.2.2 | exact he.2.2.2.2.2.2.2.2.2.2.2.2.2.2.2.2.2.2.2.1 | exact he.2.2.2.2.2.2.2.2.2.2.2.2.2.2.2.2.2.2.2 | exact he.2.2.2.2.2.2.2.2.2.2.2.2.2.2.2.2.2.2.2.2.1 | exact he.2.2.2.2.2.2.2.2.2.2.2.2.2.2.2.2.2.2.2.2 | exact he.2.2.2.2.2.2.2.2.2.2.2.2.2.2.2.2.2.2.2.2.2.1 | exact he.2.2.2.2.2.2.2.2.2.2.2.2.2.2.2.2.2.2.2.2.2 | exact he.2.2.2.2.2.2.2.2.2.2.2.2.2.2.2.2.2.2.2.2.2.2.1 | exact he.2.2.2.2.2.2.2.2.2.2.2.2.2.2.2.2.2.2.2.2.2.2 | exact he.2.2.2.2.2.2.2.2.2.2.2.2.2.2.2.2.2.2.2.2.2.2.2.1 | exact he.2.2.2.2.2.2.2.2.2.2.2.2.2.2.2.2.2.2.2.2.2.2.2 )
              subst h14
              refine val_list rfl (.int .u8 ((X : Int) / 256 % 256)) (by go_simp; simp [IntKind.wrap, IntKind.bits, IntKind.signed]) ?_
              refine hM _ _ ⟨x0, x1, x2, x3, x4, x5, x6, x7, x8, x9, x10, x11, x12, x13, (.int .u32 ((X : Int) / 256)), (.int .u8 ((X : Int) / 256 % 256)), x16, x17, x18, x19, x20, x21, x22, gb, by go_simp, ?_⟩
              show RJ wr gh q X wo.heap.size x (dig (H.take q)) u8v v e0 e1 e2 e3 e4 e5 e6 e7 e8 e9 e10 e11 e12 e13 e14 true e16 e17 e18 e19 e20 e21 e22 x0 x1 x2 x3 x4 x5 x6 x7 x8 x9 x10 x11 x12 x13 (.int .u32 ((X : Int) / 256)) (.int .u8 ((X : Int) / 256 % 256)) x16 x17 x18 x19 x20 x21 x22 gb
              exact { y with f15 := fun _ => rfl }
            · refine val_list rfl (.int .i64 (q : Int)) (by go_simp) ?_
              refine hM _ _ ⟨x0, x1, x2, x3, x4, x5, x6, x7, x8, x9, x10, x11, x12, x13, x14, x15, (.int .i64 (q : Int)), x17, x18, x19, x20, x21, x22, gb, by go_simp, ?_⟩
              show RJ wr gh q X wo.heap.size x (dig (H.take q)) u8v v e0 e1 e2 e3 e4 e5 e6 e7 e8 e9 e10 e11 e12 e13 e14 e15 true e17 e18 e19 e20 e21 e22 x0 x1 x2 x3 x4 x5 x6 x7 x8 x9 x10 x11 x12 x13 x14 x15 (.int .i64 (q : Int)) x17 x18 x19 x20 x21 x22 gb
              exact { y with f16 := fun _ => rfl }
            · have h16 := y.f16 (by first | exact he | exact he.1 | exact he.2 | exact he.2.1 | exact he.2 | exact he.2.2.1 | exact he.2.2 | exact he.2.2.2.1 | exact he.2.2.2 | exact he.2.2.2.2.1 | exact he.2.2.2.2 | exact he.2.2.2.2.2.1 | exact he.2.2.2.2.2 | exact he.2.2.2.2.2.2.1 | exact he.2.2.2.2.2.2 | exact he.2.2.2.2.2.2.2.1 | exact he.2.2.2.2.2.2.2 | exact he.2.2.2.2.2.2.2.2.1 | exact he.2.2.2.2.2.2.2.2 | exact he.2.2.2.2.2.2.2.2.2.1 | exact he.2.2.2.2.2.2.2.2.2 | exact he.2.2.2.2.2.2.2.2.2.2.1 | exact he.2.2.2.2.2.2.2.2.2.2 | exact he.2.2.2.2.2.2.2.2.2.2.2.1 | exact he.2.2.2.2.2.2.2.2.2.2.2 | exact he.2.2.2.2.2.2.2.2.2.2.2.2.1 | exact he.2.2.2.2.2.2.2.2.2.2.2.2 | exact he.2.2.2.2.2.2.2.2.2.2.2.2.2.1 | exact he.2.2.2.2.2.2.2.2.2.2.2.2.2 | exact he.2.2.2.2.2.2.2.2.2.2.2.2.2.2.1 | exact he.2.2.2.2.2.2.2.2.2.2.2.2.2.2 | exact he.2.2.2.2.2.2.2.2.2.2.2.2.2.2.2.1 | exact he.2.2.2.2.2.2.2.2.2.2.2.2.2.2.2 | exact he.2.2.2.2.2.2.2.2.2.2.2.2.2.2.2.2.1 | exact he.2.2.2.2.2.2.2.2.2.2.2.2.2.2.2.2 | exact he.2.2.2.2.2.2.2.2.2.2.2.2.2.2.2.2.2.1 | exact he.2.2.2.2.2.2.2.2.2.2.2.2.2.2.2.2.2 | exact he.2.2.2.2.2.2.2.2.2.2.2.2.2.2.2.2.2.2.1 | exact he.2.2.2.2.2.2.2.2.2.2.2.2.2.2.2.2.2.2 | exact he.2.2.2.2.2.2.2.2.2.2.2.2.2.2.2.2.2.2.2.1 | exact he.2.2.2.2.2.2.2.2.2.2.2.2.2.2.2.2.2.2.2 | exact he.2.2.2.2.2.2.2.2.2.2.2.2.2.2.2.2.2.2.2.2.1 | exact he.2.2.2.2.2.2.2.2.2.2.2.2.2.2.2.2.2.2.2.2 | exact he.2.2.2.2.2.2.2.2.2.2.2.2.2.2.2.2.2.2.2.2.2.1 | exact he.2.2.2.2.2.2.2.2.2.2.2.2.2.2.2.2.2.2.2.2.2 | exact he.2.2.2.2.2.2.2.2.2.2.2.2.2.2.2.2.2.2.2.2.2.2.1 | exact he.2.2.2.2.2.2.2.2.2.2.2.2.2.2.2.2.2.2.2.2.2.2 | exact he.2.2.2.2.2.2.2.2.2.2.2.2.2.2.2.2.2.2.2.2.2.2.2.1 | exact he.2.2.2.2.2.2.2.2.2.2.2.2.2.2.2.2.2.2.2.2.2.2.2 )
              subst h16
              refine val_list rfl (.pointer (some ⟨gh, q, none⟩)) (by go_simp) ?_
              refine hM _ _ ⟨x0, x1, x2, x3, x4, x5, x6, x7, x8, x9, x10, x11, x12, x13, x14, x15, (.int .i64 (q : Int)), (.pointer (some ⟨gh, q, none⟩)), x18, x19, x20, x21, x22, gb, by go_simp, ?_⟩
              show RJ wr gh q X wo.heap.size x (dig (H.take q)) u8v v e0 e1 e2 e3 e4 e5 e6 e7 e8 e9 e10 e11 e12 e13 e14 e15 e16 true e18 e19 e20 e21 e22 x0 x1 x2 x3 x4 x5 x6 x7 x8 x9 x10 x11 x12 x13 x14 x15 (.int .i64 (q : Int)) (.pointer (some ⟨gh, q, none⟩)) x18 x19 x20 x21 x22 gb
              exact { y with f17 := fun _ => rfl }
            · have h17 := y.f17 (by first | exact he | exact he.1 | exact he.2 | exact he.2.1 | exact he.2 | exact he.2.2.1 | exact he.2.2 | exact he.2.2.2.1 | exact he.2.2.2 | exact he.2.2.2.2.1 | exact he.2.2.2.2 | exact he.2.2.2.2.2.1 | exact he.2.2.2.2.2 | exact he.2.2.2.2.2.2.1 | exact he.2.2.2.2.2.2 | exact he.2.2.2.2.2.2.2.1 | exact he.2.2.2.2.2.2.2 | exact he.2.2.2.2.2.2.2.2.1 | exact he.2.2.2.2.2.2.2.2 | exact he.2.2.2.2.2.2.2.2.2.1 | exact he.2.2.2.2.2.2.2.2.2 | exact he.2.2.2.2.2.2.2.2.2.2.1 | exact he.2.2.2.2.2.2.2.2.2.2 | exact he.2.2.2.2.2.2.2.2.2.2.2.1 | exact he.2.2.2.2.2.2.2.2.2.2.2 | exact he.2.2.2.2.2.2.2.2.2.2.2.2.1 | exact he.2.2.2.2.2.2.2.2.2.2.2.2 | exact he.2.2.2.2.2.2.2.2.2.2.2.2.2.1 | exact he.2.2.2.2.2.2.2.2.2.2.2.2.2 | exact he.2.2.2.2.2.2.2.2.2.2.2.2.2.2.1 | exact he.2.2.2.2.2.2.2.2.2.2.2.2.2.2 | exact he.2.2.2.2.2.2.2.2.2.2.2.2.2.2.2.1 | exact he.2.2.2.2.2.2.2.2.2.2.2.2.2.2.2 | exact he.2.2.2.2.2.2.2.2.2.2.2.2.2.2.2.2.1 | exact he.2.2.2.2.2.2.2.2.2.2.2.2.2.2.2.2 | exact he.2.2.2.2.2.2.2.2.2.2.2.2.2.2.2.2.2.1 | exact he.2.2.2.2.2.2.2.2.2.2.2.2.2.2.2.2.2 | exact he.2.2.2.2.2.2.2.2.2.2.2.2.2.2.2.2.2.2.1 | exact he.2.2.2.2.2.2.2.2.2.2.2.2.2.2.2.2.2.2 | exact he.2.2.2.2.2.2.2.2.2.2.2.2.2.2.2.2.2.2.2.1 | exact he.2.2.2.2.2.2.2.2.2.2.2.2.2.2.2.2.2.2.2 | exact he.2.2.2.2.2.2.2.2.2.2.2.2.2.2.2.2.2.2.2.2.1 | exact he.2.2.2.2.2.2.2.2.2.2.2.2.2.2.2.2.2.2.2.2 | exact he.2.2.2.2.2.2.2.2.2.2.2.2.2.2.2.2.2.2.2.2.2.1 | exact he.2.2.2.2.2.2.2.2.2.2.2.2.2.2.2.2.2.2.2.2.2 | exact he.2.2.2.2.2.2.2.2.2.2.2.2.2.2.2.2.2.2.2.2.2.2.1 | exact he.2.2.2.2.2.2.2.2.2.2.2.2.2.2.2.2.2.2.2.2.2.2 | exact he.2.2.2.2.2.2.2.2.2.2.2.2.2.2.2.2.2.2.2.2.2.2.2.1 | exact he.2.2.2.2.2.2.2.2.2.2.2.2.2.2.2.2.2.2.2.2.2.2.2 )
              subst h17
              refine val_list rfl (.int .u32 (X : Int)) (by go_simp) ?_
              refine hM _ _ ⟨x0, x1, x2, x3, x4, x5, x6, x7, x8, x9, x10, x11, x12, x13, x14, x15, x16, (.pointer (some ⟨gh, q, none⟩)), (.int .u32 (X : Int)), x19, x20, x21, x22, gb, by go_simp, ?_⟩
              show RJ wr gh q X wo.heap.size x (dig (H.take q)) u8v v e0 e1 e2 e3 e4 e5 e6 e7 e8 e9 e10 e11 e12 e13 e14 e15 e16 e17 true e19 e20 e21 e22 x0 x1 x2 x3 x4 x5 x6 x7 x8 x9 x10 x11 x12 x13 x14 x15 x16 (.pointer (some ⟨gh, q, none⟩)) (.int .u32 (X : Int)) x19 x20 x21 x22 gb
              exact { y with f18 := fun _ => rfl }
            · have h18 := y.f18 (by first | exact he | exact he.1 | exact he.2 | exact he.2.1 | exact he.2 | exact he.2.2.1 | exact he.2.2 | exact he.2.2.2.1 | exact he.2.2.2 | exact he.2.2.2.2.1 | exact he.2.2.2.2 | exact he.2.2.2.2.2.1 | exact he.2.2.2.2.2 | exact he.2.2.2.2.2.2.1 | exact he.2.2.2.2.2.2 | exact he.2.2.2.2.2.2.2.1 | exact he.2.2.2.2.2.2.2 | exact he.2.2.2.2.2.2.2.2.1 | exact he.2.2.2.2.2.2.2.2 | exact he.2.2.2.2.2.2.2.2.2.1 | exact he.2.2.2.2.2.2.2.2.2 | exact he.2.2.2.2.2.2.2.2.2.2.1 | exact he.2.2.2.2.2.2.2.2.2.2 | exact he.2.2.2.2.2.2.2.2.2.2.2.1 | exact he.2.2.2.2.2.2.2.2.2.2.2 | exact he.2.2.2.2.2.2.2.2.2.2.2.2.1 | exact he.2.2.2.2.2.2.2.2.2.2.2.2 | exact he.2.2.2.2.2.2.2.2.2.2.2.2.2.1 | exact he.2.2.2.2.2.2.2.2.2.2.2.2.2 | exact he.2.2.2.2.2.2.2.2.2.2.2.2.2.2.1 | exact he.2.2.2.2.2.2.2.2.2.2.2.2.2.2 | exact he.2.2.2.2.2.2.2.2.2.2.2.2.2.2.2.1 | exact he.2.2.2.2.2.2.2.2.2.2.2.2.2.2.2 | exact he.2.2.2.2.2.2.2.2.2.2.2.2.2.2.2.2.1 | exact he.2.2.2.2.2.2.2.2.2.2.2.2.2.2.2.2 | exact he.2.2.2.2.2.2.2.2.2.2.2.2.2.2.2.2.2.1 | exact he.2.2.2.2.2.2.2.2.2.2.2.2.2.2.2.2.2 | exact he.2.2.2.2.2.2.2.2.2.2.2.2.2.2.2.2.2.2.1 | exact he.2.2.2.2.2.2.2.2.2.2.2.2.2.2.2.2.2.2 | exact he.2.2.2.2.2.2.2.2.2.2.2.2.2.2.2.2.2.2.2.1 | exact he.2.2.2.2.2.2.2.2.2.2.2.2.2.2.2.2.2.2.2 | exact he.2.2.2.2.2.2.2.2.2.2.2.2.2.2.2.2.2.2.2.2.1 | exact he.2.2.2.2.2.2.2.2.2.2.2.2.2.2.2.2.2.2.2.2 | exact he.2.2.2.2.2.2.2.2.2.2.2.2.2.2.2.2.2.2.2.2.2.1 | exact he.2.2.2.2.2.2.2.2.2.2.2.2.2.2.2.2.2.2.2.2.2 | exact he.2.2.2.2.2.2.2.2.2.2.2.2.2.2.2.2.2.2.2.2.2.2.1 | exact he.2.2.2.2.2.2.2.2.2.2.2.2.2.2.2.2.2.2.2.2.2.2 | exact he.2.2.2.2.2.2.2.2.2.2.2.2.2.2.2.2.2.2.2.2.2.2.2.1 | exact he.2.2.2.2.2.2.2.2.2.2.2.2.2.2.2.2.2.2.2.2.2.2.2 )
              subst h18
              refine val_list rfl (.int .u8 ((X : Int) % 256)) (by go_simp; simp [IntKind.wrap, IntKind.bits, IntKind.signed]) ?_
              refine hM _ _ ⟨x0, x1, x2, x3, x4, x5, x6, x7, x8, x9, x10, x11, x12, x13, x14, x15, x16, x17, (.int .u32 (X : Int)), (.int .u8 ((X : Int) % 256)), x20, x21, x22, gb, by go_simp, ?_⟩
              show RJ wr gh q X wo.heap.size x (dig (H.take q)) u8v v e0 e1 e2 e3 e4 e5 e6 e7 e8 e9 e10 e11 e12 e13 e14 e15 e16 e17 e18 true e20 e21 e22 x0 x1 x2 x3 x4 x5 x6 x7 x8 x9 x10 x11 x12 x13 x14 x15 x16 x17 (.int .u32 (X : Int)) (.int .u8 ((X : Int) % 256)) x20 x21 x22 gb
              exact { y with f19 := fun _ => rfl }
            · have h5 := y.f5 (by first | exact he | exact he.1 | exact he.2 | exact he.2.1 | exact he.2 | exact he.2.2.1 | exact he.2.2 | exact he.2.2.2.1 | exact he.2.2.2 | exact he.2.2.2.2.1 | exact he.2.2.2.2 | exact he.2.2.2.2.2.1 | exact he.2.2.2.2.2 | exact he.2.2.2.2.2.2.1 | exact he.2.2.2.2.2.2 | exact he.2.2.2.2.2.2.2.1 | exact he.2.2.2.2.2.2.2 | exact he.2.2.2.2.2.2.2.2.1 | exact he.2.2.2.2.2.2.2.2 | exact he.2.2.2.2.2.2.2.2.2.1 | exact he.2.2.2.2.2.2.2.2.2 | exact he.2.2.2.2.2.2.2.2.2.2.1 | exact he.2.2.2.2.2.2.2.2.2.2 | exact he.2.2.2.2.2.2.2.2.2.2.2.1 | exact he.2.2.2.2.2.2.2.2.2.2.2 | exact he.2.2.2.2.2.2.2.2.2.2.2.2.1 | exact he.2.2.2.2.2.2.2.2.2.2.2.2 | exact he.2.2.2.2.2.2.2.2.2.2.2.2.2.1 | exact he.2.2.2.2.2.2.2.2.2.2.2.2.2 | exact he.2.2.2.2.2.2.2.2.2.2.2.2.2.2.1 | exact he.2.2.2.2.2.2.2.2.2.2.2.2.2.2 | exact he.2.2.2.2.2.2.2.2.2.2.2.2.2.2.2.1 | exact he.2.2.2.2.2.2.2.2.2.2.2.2.2.2.2 | exact he.2.2.2.2.2.2.2.2.2.2.2.2.2.2.2.2.1 | exact he.2.2.2.2.2.2.2.2.2.2.2.2.2.2.2.2 | exact he.2.2.2.2.2.2.2.2.2.2.2.2.2.2.2.2.2.1 | exact he.2.2.2.2.2.2.2.2.2.2.2.2.2.2.2.2.2 | exact he.2.2.2.2.2.2.2.2.2.2.2.2.2.2.2.2.2.2.1 | exact he.2.2.2.2.2.2.2.2.2.2.2.2.2.2.2.2.2.2 | exact he.2.2.2.2.2.2.2.2.2.2.2.2.2.2.2.2.2.2.2.1 | exact he.2.2.2.2.2.2.2.2.2.2.2.2.2.2.2.2.2.2.2 | exact he.2.2.2.2.2.2.2.2.2.2.2.2.2.2.2.2.2.2.2.2.1 | exact he.2.2.2.2.2.2.2.2.2.2.2.2.2.2.2.2.2.2.2.2 | exact he.2.2.2.2.2.2.2.2.2.2.2.2.2.2.2.2.2.2.2.2.2.1 | exact he.2.2.2.2.2.2.2.2.2.2.2.2.2.2.2.2.2.2.2.2.2 | exact he.2.2.2.2.2.2.2.2.2.2.2.2.2.2.2.2.2.2.2.2.2.2.1 | exact he.2.2.2.2.2.2.2.2.2.2.2.2.2.2.2.2.2.2.2.2.2.2 | exact he.2.2.2.2.2.2.2.2.2.2.2.2.2.2.2.2.2.2.2.2.2.2.2.1 | exact he.2.2.2.2.2.2.2.2.2.2.2.2.2.2.2.2.2.2.2.2.2.2.2 )
              subst h5
              have h10 := y.f10 (by first | exact he | exact he.1 | exact he.2 | exact he.2.1 | exact he.2 | exact he.2.2.1 | exact he.2.2 | exact he.2.2.2.1 | exact he.2.2.2 | exact he.2.2.2.2.1 | exact he.2.2.2.2 | exact he.2.2.2.2.2.1 | exact he.2.2.2.2.2 | exact he.2.2.2.2.2.2.1 | exact he.2.2.2.2.2.2 | exact he.2.2.2.2.2.2.2.1 | exact he.2.2.2.2.2.2.2 | exact he.2.2.2.2.2.2.2.2.1 | exact he.2.2.2.2.2.2.2.2 | exact he.2.2.2.2.2.2.2.2.2.1 | exact he.2.2.2.2.2.2.2.2.2 | exact he.2.2.2.2.2.2.2.2.2.2.1 | exact he.2.2.2.2.2.2.2.2.2.2 | exact he.2.2.2.2.2.2.2.2.2.2.2.1 | exact he.2.2.2.2.2.2.2.2.2.2.2 | exact he.2.2.2.2.2.2.2.2.2.2.2.2.1 | exact he.2.2.2.2.2.2.2.2.2.2.2.2 | exact he.2.2.2.2.2.2.2.2.2.2.2.2.2.1 | exact he.2.2.2.2.2.2.2.2.2.2.2.2.2 | exact he.2.2.2.2.2.2.2.2.2.2.2.2.2.2.1 | exact he.2.2.2.2.2.2.2.2.2.2.2.2.2.2 | exact he.2.2.2.2.2.2.2.2.2.2.2.2.2.2.2.1 | exact he.2.2.2.2.2.2.2.2.2.2.2.2.2.2.2 | exact he.2.2.2.2.2.2.2.2.2.2.2.2.2.2.2.2.1 | exact he.2.2.2.2.2.2.2.2.2.2.2.2.2.2.2.2 | exact he.2.2.2.2.2.2.2.2.2.2.2.2.2.2.2.2.2.1 | exact he.2.2.2.2.2.2.2.2.2.2.2.2.2.2.2.2.2 | exact he.2.2.2.2.2.2.2.2.2.2.2.2.2.2.2.2.2.2.1 | exact he.2.2.2.2.2.2.2.2.2.2.2.2.2.2.2.2.2.2 | exact he.2.2.2.2.2.2.2.2.2.2.2.2.2.2.2.2.2.2.2.1 | exact he.2.2.2.2.2.2.2.2.2.2.2.2.2.2.2.2.2.2.2 | exact he.2.2.2.2.2.2.2.2.2.2.2.2.2.2.2.2.2.2.2.2.1 | exact he.2.2.2.2.2.2.2.2.2.2.2.2.2.2.2.2.2.2.2.2 | exact he.2.2.2.2.2.2.2.2.2.2.2.2.2.2.2.2.2.2.2.2.2.1 | exact he.2.2.2.2.2.2.2.2.2.2.2.2.2.2.2.2.2.2.2.2.2 | exact he.2.2.2.2.2.2.2.2.2.2.2.2.2.2.2.2.2.2.2.2.2.2.1 | exact he.2.2.2.2.2.2.2.2.2.2.2.2.2.2.2.2.2.2.2.2.2.2 | exact he.2.2.2.2.2.2.2.2.2.2.2.2.2.2.2.2.2.2.2.2.2.2.2.1 | exact he.2.2.2.2.2.2.2.2.2.2.2.2.2.2.2.2.2.2.2.2.2.2.2 )
              subst h10
              have h15 := y.f15 (by first | exact he | exact he.1 | exact he.2 | exact he.2.1 | exact he.2 | exact he.2.2.1 | exact he.2.2 | exact he.2.2.2.1 | exact he.2.2.2 | exact he.2.2.2.2.1 | exact he.2.2.2.2 | exact he.2.2.2.2.2.1 | exact he.2.2.2.2.2 | exact he.2.2.2.2.2.2.1 | exact he.2.2.2.2.2.2 | exact he.2.2.2.2.2.2.2.1 | exact he.2.2.2.2.2.2.2 | exact he.2.2.2.2.2.2.2.2.1 | exact he.2.2.2.2.2.2.2.2 | exact he.2.2.2.2.2.2.2.2.2.1 | exact he.2.2.2.2.2.2.2.2.2 | exact he.2.2.2.2.2.2.2.2.2.2.1 | exact he.2.2.2.2.2.2.2.2.2.2 | exact he.2.2.2.2.2.2.2.2.2.2.2.1 | exact he.2.2.2.2.2.2.2.2.2.2.2 | exact he.2.2.2.2.2.2.2.2.2.2.2.2.1 | exact he.2.2.2.2.2.2.2.2.2.2.2.2 | exact he.2.2.2.2.2.2.2.2.2.2.2.2.2.1 | exact he.2.2.2.2.2.2.2.2.2.2.2.2.2 | exact he.2.2.2.2.2.2.2.2.2.2.2.2.2.2.1 | exact he.2.2.2.2.2.2.2.2.2.2.2.2.2.2 | exact he.2.2.2.2.2.2.2.2.2.2.2.2.2.2.2.1 | exact he.2.2.2.2.2.2.2.2.2.2.2.2.2.2.2 | exact he.2.2.2.2.2.2.2.2.2.2.2.2.2.2.2.2.1 | exact he.2.2.2.2.2.2.2.2.2.2.2.2.2.2.2.2 | exact he.2.2.2.2.2.2.2.2.2.2.2.2.2.2.2.2.2.1 | exact he.2.2.2.2.2.2.2.2.2.2.2.2.2.2.2.2.2 | exact he.2.2.2.2.2.2.2.2.2.2.2.2.2.2.2.2.2.2.1 | exact he.2.2.2.2.2.2.2.2.2.2.2.2.2.2.2.2.2.2 | exact he.2.2.2.2.2.2.2.2.2.2.2.2.2.2.2.2.2.2.2.1 | exact he.2.2.2.2.2.2.2.2.2.2.2.2.2.2.2.2.2.2.2 | exact he.2.2.2.2.2.2.2.2.2.2.2.2.2.2.2.2.2.2.2.2.1 | exact he.2.2.2.2.2.2.2.2.2.2.2.2.2.2.2.2.2.2.2.2 | exact he.2.2.2.2.2.2.2.2.2.2.2.2.2.2.2.2.2.2.2.2.2.1 | exact he.2.2.2.2.2.2.2.2.2.2.2.2.2.2.2.2.2.2.2.2.2 | exact he.2.2.2.2.2.2.2.2.2.2.2.2.2.2.2.2.2.2.2.2.2.2.1 | exact he.2.2.2.2.2.2.2.2.2.2.2.2.2.2.2.2.2.2.2.2.2.2 | exact he.2.2.2.2.2.2.2.2.2.2.2.2.2.2.2.2.2.2.2.2.2.2.2.1 | exact he.2.2.2.2.2.2.2.2.2.2.2.2.2.2.2.2.2.2.2.2.2.2.2 )
              subst h15
              have h19 := y.f19 (by first | exact he | exact he.1 | exact he.2 | exact he.2.1 | exact he.2 | exact he.2.2.1 | exact he.2.2 | exact he.2.2.2.1 | exact he.2.2.2 | exact he.2.2.2.2.1 | exact he.2.2.2.2 | exact he.2.2.2.2.2.1 | exact he.2.2.2.2.2 | exact he.2.2.2.2.2.2.1 | exact he.2.2.2.2.2.2 | exact he.2.2.2.2.2.2.2.1 | exact he.2.2.2.2.2.2.2 | exact he.2.2.2.2.2.2.2.2.1 | exact he.2.2.2.2.2.2.2.2 | exact he.2.2.2.2.2.2.2.2.2.1 | exact he.2.2.2.2.2.2.2.2.2 | exact he.2.2.2.2.2.2.2.2.2.2.1 | exact he.2.2.2.2.2.2.2.2.2.2 | exact he.2.2.2.2.2.2.2.2.2.2.2.1 | exact he.2.2.2.2.2.2.2.2.2.2.2 | exact he.2.2.2.2.2.2.2.2.2.2.2.2.1 | exact he.2.2.2.2.2.2.2.2.2.2.2.2 | exact he.2.2.2.2.2.2.2.2.2.2.2.2.2.1 | exact he.2.2.2.2.2.2.2.2.2.2.2.2.2 | exact he.2.2.2.2.2.2.2.2.2.2.2.2.2.2.1 | exact he.2.2.2.2.2.2.2.2.2.2.2.2.2.2 | exact he.2.2.2.2.2.2.2.2.2.2.2.2.2.2.2.1 | exact he.2.2.2.2.2.2.2.2.2.2.2.2.2.2.2 | exact he.2.2.2.2.2.2.2.2.2.2.2.2.2.2.2.2.1 | exact he.2.2.2.2.2.2.2.2.2.2.2.2.2.2.2.2 | exact he.2.2.2.2.2.2.2.2.2.2.2.2.2.2.2.2.2.1 | exact he.2.2.2.2.2.2.2.2.2.2.2.2.2.2.2.2.2 | exact he.2.2.2.2.2.2.2.2.2.2.2.2.2.2.2.2.2.2.1 | exact he.2.2.2.2.2.2.2.2.2.2.2.2.2.2.2.2.2.2 | exact he.2.2.2.2.2.2.2.2.2.2.2.2.2.2.2.2.2.2.2.1 | exact he.2.2.2.2.2.2.2.2.2.2.2.2.2.2.2.2.2.2.2 | exact he.2.2.2.2.2.2.2.2.2.2.2.2.2.2.2.2.2.2.2.2.1 | exact he.2.2.2.2.2.2.2.2.2.2.2.2.2.2.2.2.2.2.2.2 | exact he.2.2.2.2.2.2.2.2.2.2.2.2.2.2.2.2.2.2.2.2.2.1 | exact he.2.2.2.2.2.2.2.2.2.2.2.2.2.2.2.2.2.2.2.2.2 | exact he.2.2.2.2.2.2.2.2.2.2.2.2.2.2.2.2.2.2.2.2.2.2.1 | exact he.2.2.2.2.2.2.2.2.2.2.2.2.2.2.2.2.2.2.2.2.2.2 | exact he.2.2.2.2.2.2.2.2.2.2.2.2.2.2.2.2.2.2.2.2.2.2.2.1 | exact he.2.2.2.2.2.2.2.2.2.2.2.2.2.2.2.2.2.2.2.2.2.2.2 )
              subst h19
              obtain ⟨i0, hi0, hz0, hz1, hz2⟩ := info_parts infoByte
              refine wpList_buildSlice rfl 30 5 4 _ rfl #[.int .u8 ((X : Int) / 16777216 % 256), .int .u8 ((X : Int) / 65536 % 256), .int .u8 ((X : Int) / 256 % 256), .int .u8 ((X : Int) % 256)] i0 _ Tryz.underlying30 hi0 hz0 (by rw [hz1]; decide) (by rw [hz1]; decide) (by rw [hz1]; go_simp) ?_
              refine hM _ _ ⟨x0, x1, x2, x3, x4, (.int .u8 ((X : Int) / 16777216 % 256)), x6, x7, x8, x9, (.int .u8 ((X : Int) / 65536 % 256)), x11, x12, x13, x14, (.int .u8 ((X : Int) / 256 % 256)), x16, x17, x18, (.int .u8 ((X : Int) % 256)), (.slice (some ⟨v.heap.size, 0, none⟩) 4 4), x21, x22, v.heap.size, by go_simp, ?_⟩
              show RJ wr gh q X wo.heap.size x (dig (H.take q)) u8v (v.alloc (.cells #[.int .u8 ((X : Int) / 16777216 % 256), .int .u8 ((X : Int) / 65536 % 256), .int .u8 ((X : Int) / 256 % 256), .int .u8 ((X : Int) % 256)] 5)) e0 e1 e2 e3 e4 e5 e6 e7 e8 e9 e10 e11 e12 e13 e14 e15 e16 e17 e18 e19 true e21 e22 x0 x1 x2 x3 x4 (.int .u8 ((X : Int) / 16777216 % 256)) x6 x7 x8 x9 (.int .u8 ((X : Int) / 65536 % 256)) x11 x12 x13 x14 (.int .u8 ((X : Int) / 256 % 256)) x16 x17 x18 (.int .u8 ((X : Int) % 256)) (.slice (some ⟨v.heap.size, 0, none⟩) 4 4) x21 x22 v.heap.size
              have hal := (Below.refl v.heap.size v).alloc (Nat.le_refl _) (.cells #[.int .u8 ((X : Int) / 16777216 % 256), .int .u8 ((X : Int) / 65536 % 256), .int .u8 ((X : Int) / 256 % 256), .int .u8 ((X : Int) % 256)] 5)
              exact { y with bel := y.bel.trans (hal.mono (Nat.le_trans HBZ.out y.bel.size)), f20 := fun _ _ => ⟨rfl, by rw [HB5.out]; exact rd_new v (be4 x) _ _ rfl (by simp [be4])⟩, fr := fun h => (y.fr h).kept hal, f21 := fun h => (y.f21 h).kept hal }
            · have h0 := y.f0 (by first | exact he | exact he.1 | exact he.2 | exact he.2.1 | exact he.2 | exact he.2.2.1 | exact he.2.2 | exact he.2.2.2.1 | exact he.2.2.2 | exact he.2.2.2.2.1 | exact he.2.2.2.2 | exact he.2.2.2.2.2.1 | exact he.2.2.2.2.2 | exact he.2.2.2.2.2.2.1 | exact he.2.2.2.2.2.2 | exact he.2.2.2.2.2.2.2.1 | exact he.2.2.2.2.2.2.2 | exact he.2.2.2.2.2.2.2.2.1 | exact he.2.2.2.2.2.2.2.2 | exact he.2.2.2.2.2.2.2.2.2.1 | exact he.2.2.2.2.2.2.2.2.2 | exact he.2.2.2.2.2.2.2.2.2.2.1 | exact he.2.2.2.2.2.2.2.2.2.2 | exact he.2.2.2.2.2.2.2.2.2.2.2.1 | exact he.2.2.2.2.2.2.2.2.2.2.2 | exact he.2.2.2.2.2.2.2.2.2.2.2.2.1 | exact he.2.2.2.2.2.2.2.2.2.2.2.2 | exact he.2.2.2.2.2.2.2.2.2.2.2.2.2.1 | exact he.2.2.2.2.2.2.2.2.2.2.2.2.2 | exact he.2.2.2.2.2.2.2.2.2.2.2.2.2.2.1 | exact he.2.2.2.2.2.2.2.2.2.2.2.2.2.2 | exact he.2.2.2.2.2.2.2.2.2.2.2.2.2.2.2.1 | exact he.2.2.2.2.2.2.2.2.2.2.2.2.2.2.2 | exact he.2.2.2.2.2.2.2.2.2.2.2.2.2.2.2.2.1 | exact he.2.2.2.2.2.2.2.2.2.2.2.2.2.2.2.2 | exact he.2.2.2.2.2.2.2.2.2.2.2.2.2.2.2.2.2.1 | exact he.2.2.2.2.2.2.2.2.2.2.2.2.2.2.2.2.2 | exact he.2.2.2.2.2.2.2.2.2.2.2.2.2.2.2.2.2.2.1 | exact he.2.2.2.2.2.2.2.2.2.2.2.2.2.2.2.2.2.2 | exact he.2.2.2.2.2.2.2.2.2.2.2.2.2.2.2.2.2.2.2.1 | exact he.2.2.2.2.2.2.2.2.2.2.2.2.2.2.2.2.2.2.2 | exact he.2.2.2.2.2.2.2.2.2.2.2.2.2.2.2.2.2.2.2.2.1 | exact he.2.2.2.2.2.2.2.2.2.2.2.2.2.2.2.2.2.2.2.2 | exact he.2.2.2.2.2.2.2.2.2.2.2.2.2.2.2.2.2.2.2.2.2.1 | exact he.2.2.2.2.2.2.2.2.2.2.2.2.2.2.2.2.2.2.2.2.2 | exact he.2.2.2.2.2.2.2.2.2.2.2.2.2.2.2.2.2.2.2.2.2.2.1 | exact he.2.2.2.2.2.2.2.2.2.2.2.2.2.2.2.2.2.2.2.2.2.2 | exact he.2.2.2.2.2.2.2.2.2.2.2.2.2.2.2.2.2.2.2.2.2.2.2.1 | exact he.2.2.2.2.2.2.2.2.2.2.2.2.2.2.2.2.2.2.2.2.2.2.2 )
              subst h0
              obtain ⟨h20, hrd⟩ := y.f20 (by first | exact he | exact he.1 | exact he.2 | exact he.2.1 | exact he.2 | exact he.2.2.1 | exact he.2.2 | exact he.2.2.2.1 | exact he.2.2.2 | exact he.2.2.2.2.1 | exact he.2.2.2.2 | exact he.2.2.2.2.2.1 | exact he.2.2.2.2.2 | exact he.2.2.2.2.2.2.1 | exact he.2.2.2.2.2.2 | exact he.2.2.2.2.2.2.2.1 | exact he.2.2.2.2.2.2.2 | exact he.2.2.2.2.2.2.2.2.1 | exact he.2.2.2.2.2.2.2.2 | exact he.2.2.2.2.2.2.2.2.2.1 | exact he.2.2.2.2.2.2.2.2.2 | exact he.2.2.2.2.2.2.2.2.2.2.1 | exact he.2.2.2.2.2.2.2.2.2.2 | exact he.2.2.2.2.2.2.2.2.2.2.2.1 | exact he.2.2.2.2.2.2.2.2.2.2.2 | exact he.2.2.2.2.2.2.2.2.2.2.2.2.1 | exact he.2.2.2.2.2.2.2.2.2.2.2.2 | exact he.2.2.2.2.2.2.2.2.2.2.2.2.2.1 | exact he.2.2.2.2.2.2.2.2.2.2.2.2.2 | exact he.2.2.2.2.2.2.2.2.2.2.2.2.2.2.1 | exact he.2.2.2.2.2.2.2.2.2.2.2.2.2.2 | exact he.2.2.2.2.2.2.2.2.2.2.2.2.2.2.2.1 | exact he.2.2.2.2.2.2.2.2.2.2.2.2.2.2.2 | exact he.2.2.2.2.2.2.2.2.2.2.2.2.2.2.2.2.1 | exact he.2.2.2.2.2.2.2.2.2.2.2.2.2.2.2.2 | exact he.2.2.2.2.2.2.2.2.2.2.2.2.2.2.2.2.2.1 | exact he.2.2.2.2.2.2.2.2.2.2.2.2.2.2.2.2.2 | exact he.2.2.2.2.2.2.2.2.2.2.2.2.2.2.2.2.2.2.1 | exact he.2.2.2.2.2.2.2.2.2.2.2.2.2.2.2.2.2.2 | exact he.2.2.2.2.2.2.2.2.2.2.2.2.2.2.2.2.2.2.2.1 | exact he.2.2.2.2.2.2.2.2.2.2.2.2.2.2.2.2.2.2.2 | exact he.2.2.2.2.2.2.2.2.2.2.2.2.2.2.2.2.2.2.2.2.1 | exact he.2.2.2.2.2.2.2.2.2.2.2.2.2.2.2.2.2.2.2.2 | exact he.2.2.2.2.2.2.2.2.2.2.2.2.2.2.2.2.2.2.2.2.2.1 | exact he.2.2.2.2.2.2.2.2.2.2.2.2.2.2.2.2.2.2.2.2.2 | exact he.2.2.2.2.2.2.2.2.2.2.2.2.2.2.2.2.2.2.2.2.2.2.1 | exact he.2.2.2.2.2.2.2.2.2.2.2.2.2.2.2.2.2.2.2.2.2.2 | exact he.2.2.2.2.2.2.2.2.2.2.2.2.2.2.2.2.2.2.2.2.2.2.2.1 | exact he.2.2.2.2.2.2.2.2.2.2.2.2.2.2.2.2.2.2.2.2.2.2.2 ) hu
              subst h20
              refine append_rd rfl _ _ rfl wo.heap.size x0 (dig (H.take q)) (by go_simp) (y.fr hu) (some ⟨gb, 0, none⟩) 4 4 (be4 x) (by go_simp) hrd (by rw [HLE.out]; omega) (Nat.le_trans HBZ.out y.bel.size) ?_
              intro v' w' hf hb _
              refine hM _ _ ⟨x0, x1, x2, x3, x4, x5, x6, x7, x8, x9, x10, x11, x12, x13, x14, x15, x16, x17, x18, x19, (.slice (some ⟨gb, 0, none⟩) 4 4), v', x22, gb, by go_simp, ?_⟩
              show RJ wr gh q X wo.heap.size x (dig (H.take q)) x0 w' e0 e1 e2 e3 e4 e5 e6 e7 e8 e9 e10 e11 e12 e13 e14 e15 e16 e17 e18 e19 e20 true e22 x0 x1 x2 x3 x4 x5 x6 x7 x8 x9 x10 x11 x12 x13 x14 x15 x16 x17 x18 x19 (.slice (some ⟨gb, 0, none⟩) 4 4) v' x22 gb
              exact { y with bel := y.bel.trans hb, f20 := fun _ h => (by cases h), fr := fun h => (by cases h), f21 := fun _ => hf, f22 := fun h => (by have := y.s21 h; rw [hu] at this; cases this), s21 := fun _ => rfl }
            · refine val_list rfl x21 (by go_simp) ?_
              refine hM _ _ ⟨x0, x1, x2, x3, x4, x5, x6, x7, x8, x9, x10, x11, x12, x13, x14, x15, x16, x17, x18, x19, x20, x21, x21, gb, by go_simp, ?_⟩
              show RJ wr gh q X wo.heap.size x (dig (H.take q)) u8v v e0 e1 e2 e3 e4 e5 e6 e7 e8 e9 e10 e11 e12 e13 e14 e15 e16 e17 e18 e19 e20 e21 true x0 x1 x2 x3 x4 x5 x6 x7 x8 x9 x10 x11 x12 x13 x14 x15 x16 x17 x18 x19 x20 x21 x21 gb
              exact { y with f22 := fun _ => rfl, g22 := fun h => (by cases h), s0 := fun _ => (by first | exact he | exact he.1 | exact he.2 | exact he.2.1 | exact he.2 | exact he.2.2.1 | exact he.2.2 | exact he.2.2.2.1 | exact he.2.2.2 | exact he.2.2.2.2.1 | exact he.2.2.2.2 | exact he.2.2.2.2.2.1 | exact he.2.2.2.2.2 | exact he.2.2.2.2.2.2.1 | exact he.2.2.2.2.2.2 | exact he.2.2.2.2.2.2.2.1 | exact he.2.2.2.2.2.2.2 | exact he.2.2.2.2.2.2.2.2.1 | exact he.2.2.2.2.2.2.2.2 | exact he.2.2.2.2.2.2.2.2.2.1 | exact he.2.2.2.2.2.2.2.2.2 | exact he.2.2.2.2.2.2.2.2.2.2.1 | exact he.2.2.2.2.2.2.2.2.2.2 | exact he.2.2.2.2.2.2.2.2.2.2.2.1 | exact he.2.2.2.2.2.2.2.2.2.2.2 | exact he.2.2.2.2.2.2.2.2.2.2.2.2.1 | exact he.2.2.2.2.2.2.2.2.2.2.2.2 | exact he.2.2.2.2.2.2.2.2.2.2.2.2.2.1 | exact he.2.2.2.2.2.2.2.2.2.2.2.2.2 | exact he.2.2.2.2.2.2.2.2.2.2.2.2.2.2.1 | exact he.2.2.2.2.2.2.2.2.2.2.2.2.2.2 | exact he.2.2.2.2.2.2.2.2.2.2.2.2.2.2.2.1 | exact he.2.2.2.2.2.2.2.2.2.2.2.2.2.2.2 | exact he.2.2.2.2.2.2.2.2.2.2.2.2.2.2.2.2.1 | exact he.2.2.2.2.2.2.2.2.2.2.2.2.2.2.2.2 | exact he.2.2.2.2.2.2.2.2.2.2.2.2.2.2.2.2.2.1 | exact he.2.2.2.2.2.2.2.2.2.2.2.2.2.2.2.2.2 | exact he.2.2.2.2.2.2.2.2.2.2.2.2.2.2.2.2.2.2.1 | exact he.2.2.2.2.2.2.2.2.2.2.2.2.2.2.2.2.2.2 | exact he.2.2.2.2.2.2.2.2.2.2.2.2.2.2.2.2.2.2.2.1 | exact he.2.2.2.2.2.2.2.2.2.2.2.2.2.2.2.2.2.2.2 | exact he.2.2.2.2.2.2.2.2.2.2.2.2.2.2.2.2.2.2.2.2.1 | exact he.2.2.2.2.2.2.2.2.2.2.2.2.2.2.2.2.2.2.2.2 | exact he.2.2.2.2.2.2.2.2.2.2.2.2.2.2.2.2.2.2.2.2.2.1 | exact he.2.2.2.2.2.2.2.2.2.2.2.2.2.2.2.2.2.2.2.2.2 | exact he.2.2.2.2.2.2.2.2.2.2.2.2.2.2.2.2.2.2.2.2.2.2.1 | exact he.2.2.2.2.2.2.2.2.2.2.2.2.2.2.2.2.2.2.2.2.2.2 | exact he.2.2.2.2.2.2.2.2.2.2.2.2.2.2.2.2.2.2.2.2.2.2.2.1 | exact he.2.2.2.2.2.2.2.2.2.2.2.2.2.2.2.2.2.2.2.2.2.2.2 ), s21 := fun _ => (by first | exact he | exact he.1 | exact he.2 | exact he.2.1 | exact he.2 | exact he.2.2.1 | exact he.2.2 | exact he.2.2.2.1 | exact he.2.2.2 | exact he.2.2.2.2.1 | exact he.2.2.2.2 | exact he.2.2.2.2.2.1 | exact he.2.2.2.2.2 | exact he.2.2.2.2.2.2.1 | exact he.2.2.2.2.2.2 | exact he.2.2.2.2.2.2.2.1 | exact he.2.2.2.2.2.2.2 | exact he.2.2.2.2.2.2.2.2.1 | exact he.2.2.2.2.2.2.2.2 | exact he.2.2.2.2.2.2.2.2.2.1 | exact he.2.2.2.2.2.2.2.2.2 | exact he.2.2.2.2.2.2.2.2.2.2.1 | exact he.2.2.2.2.2.2.2.2.2.2 | exact he.2.2.2.2.2.2.2.2.2.2.2.1 | exact he.2.2.2.2.2.2.2.2.2.2.2 | exact he.2.2.2.2.2.2.2.2.2.2.2.2.1 | exact he.2.2.2.2.2.2.2.2.2.2.2.2 | exact he.2.2.2.2.2.2.2.2.2.2.2.2.2.1 | exact he.2.2.2.2.2.2.2.2.2.2.2.2.2 | exact he.2.2.2.2.2.2.2.2.2.2.2.2.2.2.1 | exact he.2.2.2.2.2.2.2.2.2.2.2.2.2.2 | exact he.2.2.2.2.2.2.2.2.2.2.2.2.2.2.2.1 | exact he.2.2.2.2.2.2.2.2.2.2.2.2.2.2.2 | exact he.2.2.2.2.2.2.2.2.2.2.2.2.2.2.2.2.1 | exact he.2.2.2.2.2.2.2.2.2.2.2.2.2.2.2.2 | exact he.2.2.2.2.2.2.2.2.2.2.2.2.2.2.2.2.2.1 | exact he.2.2.2.2.2.2.2.2.2.2.2.2.2.2.2.2.2 | exact he.2.2.2.2.2.2.2.2.2.2.2.2.2.2.2.2.2.2.1 | exact he.2.2.2.2.2.2.2.2.2.2.2.2.2.2.2.2.2.2 | exact he.2.2.2.2.2.2.2.2.2.2.2.2.2.2.2.2.2.2.2.1 | exact he.2.2.2.2.2.2.2.2.2.2.2.2.2.2.2.2.2.2.2 | exact he.2.2.2.2.2.2.2.2.2.2.2.2.2.2.2.2.2.2.2.2.1 | exact he.2.2.2.2.2.2.2.2.2.2.2.2.2.2.2.2.2.2.2.2 | exact he.2.2.2.2.2.2.2.2.2.2.2.2.2.2.2.2.2.2.2.2.2.1 | exact he.2.2.2.2.2.2.2.2.2.2.2.2.2.2.2.2.2.2.2.2.2 | exact he.2.2.2.2.2.2.2.2.2.2.2.2.2.2.2.2.2.2.2.2.2.2.1 | exact he.2.2.2.2.2.2.2.2.2.2.2.2.2.2.2.2.2.2.2.2.2.2 | exact he.2.2.2.2.2.2.2.2.2.2.2.2.2.2.2.2.2.2.2.2.2.2.2.1 | exact he.2.2.2.2.2.2.2.2.2.2.2.2.2.2.2.2.2.2.2.2.2.2.2 ) }
          · intro a' v hI
            obtain ⟨x0, x1, x2, x3, x4, x5, x6, x7, x8, x9, x10, x11, x12, x13, x14, x15, x16, x17, x18, x19, x20, x21, x22, gb, rfl, xx⟩ := hI
            have y : RJ wr gh q X wo.heap.size x (dig (H.take q)) u8v v true true true true true true true true true true true true true true true true true true true true true true true x0 x1 x2 x3 x4 x5 x6 x7 x8 x9 x10 x11 x12 x13 x14 x15 x16 x17 x18 x19 x20 x21 x22 gb := xx
            clear xx
            have hf := y.f21 rfl
            rw [← HD.out] at hf
            have h22 := y.f22 rfl
            subst h22
            have HFN := Lib.hid hf
            have HBN := Lib.hid (HBQ.out.trans y.bel)
            clear y hf
            go_wp2_with fail
            go_roundw
            case rel => exact ⟨q + 1, by omega, by go_num, Lib.hid ⟨HFN.out, HBN.out⟩⟩
            case measure => simp [intOf]; omega
        · obtain rfl : q = 8 := by omega
          rw [List.take_of_length_le (by rw [H8.out]; exact Nat.le_refl _)] at hfr
          obtain ⟨av, cv, hv, hrd⟩ := hfr.form' 32 (by rw [dig_len, H8.out])
          subst hv
          have hcv := conv_rd hrd
          have HSE2 := Lib.hid (show dig H = shaL l by rw [← HH.out]; exact HSE.out)
          have HBE := Lib.hid (HBW.out.trans (hbq.mono HBW.out.size))
          clear hfr hrd hbq HJ
          go_wp2_with fail
          go_ret
          exact ⟨one (by rw [HSE2.out]; rfl), HBE.out⟩

end Go.Proofs.YtkfhppbmnjmnoaaGreatDoor.W
