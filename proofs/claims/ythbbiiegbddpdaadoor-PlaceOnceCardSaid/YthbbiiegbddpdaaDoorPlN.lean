/- LAYER 29 (place): Order of the reference; Nodes of both. -/
import Derived.Test.YthbbiiegbddpdaaDoorPlO
import Derived.Test.YthbbiiegbddpdaaDoorTwo
import Derived.WalkLawsBesides
set_option linter.unusedSimpArgs false
set_option linter.unusedVariables false
namespace Go.Proofs.YthbbiiegbddpdaaDoor.W
open Go Go.ChangeShapes Go.WideShapes Go.ChangeAt Go.RowKit
open Go.Proofs.YthbbiiegbddpdaaDoor.S
open Go.Proofs.YthbbiiegbddpdaaDoor.P (enc dec shaL shaL_len)

def nodP (s : ByteArray) (n : Int) : List Int := (ordP s n).take 3
theorem le_cases (X Y : ByteArray) : (Op.bytesLess Y.toList X.toList = true ∧ Op.bytesLess X.toList Y.toList = false ∧ (X.toList == Y.toList) = false) ∨ (Op.bytesLess Y.toList X.toList = false ∧ Op.bytesLess X.toList Y.toList = true) ∨ (Op.bytesLess Y.toList X.toList = false ∧ Op.bytesLess X.toList Y.toList = false ∧ (X.toList == Y.toList) = true) := by
  cases h1 : Op.bytesLess X.toList Y.toList with
  | true => exact .inr (.inl ⟨ml_asym _ _ h1, rfl⟩)
  | false =>
    cases h2 : (X.toList == Y.toList) with
    | true => refine .inr (.inr ⟨?_, rfl, rfl⟩); rw [eq_of_beq h2]; exact ml_self _
    | false => exact .inl ⟨ml_total _ _ h1 (fun e => by rw [e] at h2; simp at h2), rfl, rfl⟩
theorem below_none {w w' : World} (h : w.grownBy w' none) : Below w.heap.size w w' := ⟨h.os, h.tape, h.output, h.size, fun k hk => h.block k hk (by simp)⟩
theorem LsO.grown {w w' : World} {base : Nat} {L : List Int} (h : LsO intE w base (.slice none 0 0) L) : L = [] := by
  rcases h.owr intOk with ⟨_, h⟩ | ⟨g, c, Z, h, _⟩
  · exact h
  · simp at h
set_option maxRecDepth 100000 in
set_option maxHeartbeats 16000000 in
theorem zporder (s : ByteArray) (n : Int) (w : World) (hs : s.size ≤ 1000) (hn : SI64 n) :
    Calls Tryd.prog 9 #[.string s, .int .i64 n] w fun e w' => ∃ v, e = .returned v ∧ LsO intE w' w.heap.size v (ordP s n) ∧ Below w.heap.size w w' := by
  obtain ⟨h1, h2⟩ := hn
  obtain ⟨N, hN⟩ : ∃ N, (min n 7).toNat = N := ⟨_, rfl⟩
  have hN7 : N ≤ 7 := by omega
  have hNV : 0 < N → (N : Int) ≤ n := by omega
  have hN0 : (N : Int) < 7 → ¬ (N : Int) < n := by omega
  have HO := Lib.hid (show ordP s n = ordL s N by unfold ordP; rw [hN])
  have HM := Lib.hid (fun (k : Nat) (hk : k ≤ 6) (w' : World) => zprank s k w' hs hk)
  clear hN hs
  go_enter Tryd.func9, Tryd.ntmps9
  go_wp2_with fail
  go_loopw [5, 6] (fun vo vn wr => ∃ (m : Nat) (v0 : Value), v0 = vo ∧ vn = .int .i64 (m : Int) ∧ m ≤ N ∧ Hid (LsO intE wr w.heap.size v0 (ordL s m)) ∧ Hid (Below w.heap.size w wr)) (fun _ vn _ => N - (intOf vn).toNat)
  case atStart => exact ⟨0, _, rfl, rfl, Nat.zero_le _, Lib.hid (LsO.nil _ _), Lib.hid (Below.refl _ _)⟩
  case round =>
    obtain ⟨m, v0, rfl, rfl, hm, HL, HB⟩ := hrel
    by_cases hlt : m < N
    · have hmn : (m : Int) < n := by omega
      have hm7 : (m : Int) < 7 := by omega
      have h0m : (0 : Int) ≤ (m : Int) := by omega
      have SM := Lib.hid (show SI64 (m : Int) from ⟨by omega, by omega⟩)
      obtain ⟨L, hL⟩ : ∃ L, ordL s m = L := ⟨_, rfl⟩
      have HMEM := Lib.hid (fun y hy => (ordL_mem s y m).1 (show y ∈ ordL s m by rw [hL]; exact hy))
      have HIN := Lib.hid (show insP (fun y => ltM (mkP s (m : Int)) (mkP s y)) (m : Int) L = ordL s (m + 1) by rw [← hL]; rfl)
      rw [hL] at HL
      have hLl : L.length = m := by rw [← hL]; exact ordL_len s m
      obtain ⟨a, c, hv, hls, -⟩ := HL.out.ls intOk (fun x hx => by have := HMEM.out x hx; exact ⟨by omega, by omega⟩)
      rw [hLl] at hv hls
      subst hv
      have HLS := Lib.hid hls
      have hmc := hls.hle
      have hcm := hls.hmax
      have HLL := Lib.hid hLl
      clear hL hls hLl
      obtain ⟨wo, rfl⟩ : ∃ wo, wo = wr := ⟨_, rfl⟩
      go_wp2_with fail
      go_loopw [7] (fun vk wq => ∃ (k : Nat), vk = .int .i64 (k : Int) ∧ k ≤ m ∧ Hid (∀ i, i < k → ∀ y, L[i]? = some y → ltM (mkP s (m : Int)) (mkP s y) = false) ∧ Hid (Below wo.heap.size wo wq)) (fun vk _ => m - (intOf vk).toNat)
      case atStart => exact ⟨0, rfl, Nat.zero_le _, Lib.hid (fun i h => absurd h (by omega)), Lib.hid (Below.refl _ _)⟩
      case round =>
        obtain ⟨k, rfl, hk, HP, BQ⟩ := hrel
        obtain ⟨wq, rfl⟩ : ∃ wq, wq = wr := ⟨_, rfl⟩
        have B2 := Lib.hid (HB.out.trans (BQ.out.mono HB.out.size))
        have SQ := Lib.hid BQ.out.size
        have h0k : (0 : Int) ≤ (k : Int) := by omega
        have FIN : ∀ (_ : insP (fun y => ltM (mkP s (m : Int)) (mkP s y)) (m : Int) L = L.take k ++ [(m : Int)] ++ L.drop k), True := fun _ => trivial
        clear FIN
        by_cases hkm : k < m
        · have hki : (k : Int) < (m : Int) := by omega
          obtain ⟨b, off, y, rfl, hy, hcell, -⟩ := HLS.out.at intOk BQ.out k hkm
          have hym := HMEM.out y (List.mem_of_getElem? hy)
          obtain ⟨q, rfl⟩ : ∃ q : Nat, y = (q : Int) := ⟨y.toNat, by omega⟩
          have c0 : wq.cell? ⟨b, off + k, none⟩ = some (.int .i64 (q : Int)) := by have := hcell 0 _ rfl; simpa using this
          have HY := Lib.hid hy
          obtain ⟨X, hX⟩ : ∃ X, mkP s (q : Int) = X := ⟨_, rfl⟩
          obtain ⟨Y, hY⟩ : ∃ Y, mkP s (m : Int) = Y := ⟨_, rfl⟩
          have HX := Lib.hid hX
          have HYY := Lib.hid hY
          have HM1 := Lib.hid (HM.out q (by omega) wq)
          have HM2 := Lib.hid (fun w' => HM.out m (by omega) w')
          rw [hX] at HM1
          rw [hY] at HM2
          have HF := Lib.hid (HLS.out.first k (by omega))
          have HG := Lib.hid (HLS.out.rest k (by omega))
          clear hX hY hcell hy hym
          rcases le_cases X Y with ⟨e1, e2, e3⟩ | ⟨e1, e2⟩ | ⟨e1, e2, e3⟩
          rotate_left
          · have HBB := Lib.hid (show ltM (mkP s (m : Int)) (mkP s (q : Int)) = false by rw [HX.out, HYY.out]; exact e1)
            go_wp2_with (first
              | (go_at_call 28; (with_reducible refine HM1.out.mono ?_); rintro x w3 ⟨rfl, hb⟩; have B3 := Lib.hid hb; clear hb)
              | (go_at_call 28; (with_reducible refine (HM2.out _).mono ?_); rintro x w4 ⟨rfl, hb⟩; have B4 := Lib.hid (BQ.out.trans ((B3.out.trans (hb.mono B3.out.size)).mono BQ.out.size)); clear hb))
            go_roundw
            case rel =>
              refine ⟨k + 1, by go_num, by omega, Lib.hid ?_, B4⟩
              intro i hi y hiy
              by_cases h : i < k
              · exact HP.out i h y hiy
              · obtain rfl : i = k := by omega
                rw [HY.out] at hiy; injection hiy with hiy; subst hiy; exact HBB.out
            case measure => simp [intOf]; omega
          · have HBB := Lib.hid (show ltM (mkP s (m : Int)) (mkP s (q : Int)) = false by rw [HX.out, HYY.out]; exact e1)
            go_wp2_with (first
              | (go_at_call 28; (with_reducible refine HM1.out.mono ?_); rintro x w3 ⟨rfl, hb⟩; have B3 := Lib.hid hb; clear hb)
              | (go_at_call 28; (with_reducible refine (HM2.out _).mono ?_); rintro x w4 ⟨rfl, hb⟩; have B4 := Lib.hid (BQ.out.trans ((B3.out.trans (hb.mono B3.out.size)).mono BQ.out.size)); clear hb))
            go_roundw
            case rel =>
              refine ⟨k + 1, by go_num, by omega, Lib.hid ?_, B4⟩
              intro i hi y hiy
              by_cases h : i < k
              · exact HP.out i h y hiy
              · obtain rfl : i = k := by omega
                rw [HY.out] at hiy; injection hiy with hiy; subst hiy; exact HBB.out
            case measure => simp [intOf]; omega
          · have HBB := Lib.hid (show ltM (mkP s (m : Int)) (mkP s (q : Int)) = true by rw [HX.out, HYY.out]; exact e1)
            have HI := Lib.hid (show L.take k ++ [(m : Int)] ++ L.drop k = ordL s (m + 1) by
              rw [← HIN.out]; exact (insP_at _ _ L k (q : Int) HY.out HBB.out HP.out).symm)
            go_wp2_with (first
              | (go_at_call 28; (with_reducible refine HM1.out.mono ?_); rintro x w3 ⟨rfl, hb⟩; have B3 := Lib.hid hb; clear hb)
              | (go_at_call 28; (with_reducible refine (HM2.out _).mono ?_); rintro x w4 ⟨rfl, hb⟩; have B4 := Lib.hid (B3.out.trans (hb.mono B3.out.size)); clear hb))
            obtain ⟨wp, hwp⟩ : ∃ x, wq = x := ⟨_, rfl⟩
            have B2 := Lib.hid (B2.out.trans (B4.out.mono B2.out.size))
            have HWX := Lib.hid (BQ.out.trans (B4.out.mono BQ.out.size))
            clear hwp B3
            obtain ⟨wq, rfl⟩ : ∃ x, x = w4 := ⟨_, rfl⟩
            have hkc : k ≤ c := by omega
            have hkm2 : k ≤ m := by omega
            have HW := Lib.hid (show Below wo.heap.size wo wq from HWX.out)
            refine region_h (fun v => Below wq.heap.size wq v) (by kernel_rfl) (by kernel_rfl) (Below.refl _ _).drew ?_
            obtain ⟨d0, hd0⟩ : ∃ wd, wq.drew = wd := ⟨_, rfl⟩
            have J0 : Hid (Below wq.heap.size wq d0) := Lib.hid (by rw [← hd0]; exact (Below.refl _ _).drew)
            rw [hd0]
            clear hd0
            (refine h_read 0 rfl (by kernel_rfl) (by kernel_rfl) (h_free rfl) ?_ ?_ ?_; rotate_left; (focus (intro v hv; go_simp; rfl)); go_simp)
            (refine h_read 1 rfl (by kernel_rfl) (by kernel_rfl) (h_free rfl) ?_ ?_ ?_; rotate_left; (focus (intro v hv; go_simp; rfl)); go_simp)
            (refine h_read 2 rfl (by kernel_rfl) (by kernel_rfl) (h_free rfl) ?_ ?_ ?_; rotate_left; (focus (intro v hv; go_simp; (first | rw [if_pos hkc] | skip); (first | rw [if_pos hkm2] | skip); first | done | rfl)); go_simp)
            (refine h_read 4 rfl (by kernel_rfl) (by kernel_rfl) (h_free rfl) ?_ ?_ ?_; rotate_left; (focus (intro v hv; go_simp; rfl)); go_simp)
            (refine h_read 7 rfl (by kernel_rfl) (by kernel_rfl) (h_free rfl) ?_ ?_ ?_; rotate_left; (focus (intro v hv; go_simp; rfl)); go_simp)
            (refine h_read 8 rfl (by kernel_rfl) (by kernel_rfl) (h_free rfl) ?_ ?_ ?_; rotate_left; (focus (intro v hv; go_simp; rfl)); go_simp)
            (refine h_read 9 rfl (by kernel_rfl) (by kernel_rfl) (h_free rfl) ?_ ?_ ?_; rotate_left; (focus (intro v hv; go_simp; (first | rw [if_pos hkc] | skip); (first | rw [if_pos hkm2] | skip); first | done | rfl)); go_simp)
            refine h_two 3 5 rfl rfl (by kernel_rfl) ?_ ?_
            · intro K hK
              refine append_ls intOk rfl _ _ rfl wq.heap.size (.slice none 0 0) [] (by go_simp; first | done | rfl) (LsO.nil _ _) (some ⟨b, off, none⟩) k c (L.take k) (by go_simp; first | done | rfl) ((HF.out.mono intOk (HW.out.trans (J0.out.mono HW.out.size)))) (by simp; omega) J0.out.size ?_
              intro v3 d1 hl hb _ _
              have L3 := Lib.hid (show LsO intE d1 wq.heap.size v3 (L.take k) by simpa using hl)
              have J1 := Lib.hid (J0.out.trans hb)
              clear hl hb
              refine hK _ _ J1.out ?_
              go_simp
              clear hK K
              (refine h_list 5 rfl (by kernel_rfl) ?_; intro K hK)
              refine bi1 rfl _ rfl (m : Int) (by go_simp; first | done | rfl) SM.out ?_
              intro d2 hsl hb hz
              have LB := Lib.hid (show Ls intE d2 (some ⟨d1.heap.size, 0, none⟩) 1 1 [(m : Int)] from hsl.ls (by decide) (by decide) (fun h => by cases h))
              have J2 := Lib.hid (J1.out.trans (hb.mono J1.out.size))
              obtain ⟨gx, hgx⟩ : ∃ gx, d1.heap.size = gx := ⟨_, rfl⟩
              rw [hgx] at LB ⊢
              have L3 := Lib.hid (L3.out.kept hb)
              clear hgx
              clear hsl hb hz
              refine hK _ _ J2.out ?_
              go_simp
              clear hK K
              (refine h_list 6 rfl (by kernel_rfl) ?_; intro K hK)
              refine append_ls intOk rfl _ _ rfl wq.heap.size v3 (L.take k) (by go_simp; first | done | rfl) L3.out (some ⟨gx, 0, none⟩) 1 1 [(m : Int)] (by go_simp; first | done | rfl) LB.out (by rw [List.length_take]; omega) J2.out.size ?_
              intro v6 d3 hl hb _ _
              have L6 := Lib.hid hl
              have J3 := Lib.hid (J2.out.trans hb)
              clear hl hb
              refine hK _ _ J3.out ?_
              go_simp
              (refine h_list 10 rfl (by kernel_rfl) ?_; intro K hK)
              refine append_ls intOk rfl _ _ rfl wq.heap.size v6 (L.take k ++ [(m : Int)]) (by go_simp; first | done | rfl) L6.out _ (m - k) (c - k) (L.drop k) (by go_simp; first | done | rfl) (HG.out.mono intOk (HW.out.trans (J3.out.mono HW.out.size))) (by rw [List.length_append, List.length_take, List.length_singleton]; omega) J3.out.size ?_
              intro v10 d4 hl hb _ _
              have L10 := Lib.hid (show LsO intE d4 wq.heap.size v10 (ordL s (m + 1)) by rw [← HI.out]; exact hl)
              have J4 := Lib.hid (J3.out.trans hb)
              clear hl hb
              refine hK _ _ J4.out ?_
              go_simp
              (refine h_read 11 rfl (by kernel_rfl) (by kernel_rfl) (h_free rfl) ?_ ?_ ?_; rotate_left; (focus (intro v hv; go_simp; rfl)); go_simp)
              refine h_done (by kernel_rfl) ?_
              go_wp2_with fail
              go_roundw
              case rel => exact ⟨m + 1, _, rfl, by go_num, by omega, Lib.hid (L10.out.base B2.out.size), Lib.hid (B2.out.trans (J4.out.mono B2.out.size))⟩
              case measure => simp [intOf]; omega
            · intro K hK
              refine bi1 rfl _ rfl (m : Int) (by go_simp; first | done | rfl) SM.out ?_
              intro d1 hsl hb hz
              have LB := Lib.hid (show Ls intE d1 (some ⟨d0.heap.size, 0, none⟩) 1 1 [(m : Int)] from hsl.ls (by decide) (by decide) (fun h => by cases h))
              have J1 := Lib.hid (J0.out.trans (hb.mono J0.out.size))
              obtain ⟨gx, hgx⟩ : ∃ gx, d0.heap.size = gx := ⟨_, rfl⟩
              rw [hgx] at LB ⊢
              clear hgx
              clear hsl hb hz
              refine hK _ _ J1.out ?_
              go_simp
              clear hK K
              (refine h_list 3 rfl (by kernel_rfl) ?_; intro K hK)
              refine append_ls intOk rfl _ _ rfl wq.heap.size (.slice none 0 0) [] (by go_simp; first | done | rfl) (LsO.nil _ _) (some ⟨b, off, none⟩) k c (L.take k) (by go_simp; first | done | rfl) ((HF.out.mono intOk (HW.out.trans (J1.out.mono HW.out.size)))) (by simp; omega) J1.out.size ?_
              intro v3 d2 hl hb hgr _
              have HB12 := Lib.hid (show Below d1.heap.size d1 d2 from below_none hgr)
              have L3 := Lib.hid (show LsO intE d2 wq.heap.size v3 (L.take k) by simpa using hl)
              have J2 := Lib.hid (J1.out.trans hb)
              have LB := Lib.hid (LB.out.mono intOk HB12.out)
              clear hl hb HB12
              refine hK _ _ J2.out ?_
              go_simp
              clear hK K
              (refine h_list 6 rfl (by kernel_rfl) ?_; intro K hK)
              refine append_ls intOk rfl _ _ rfl wq.heap.size v3 (L.take k) (by go_simp; first | done | rfl) L3.out (some ⟨gx, 0, none⟩) 1 1 [(m : Int)] (by go_simp; first | done | rfl) LB.out (by rw [List.length_take]; omega) J2.out.size ?_
              intro v6 d3 hl hb _ _
              have L6 := Lib.hid hl
              have J3 := Lib.hid (J2.out.trans hb)
              clear hl hb
              refine hK _ _ J3.out ?_
              go_simp
              (refine h_list 10 rfl (by kernel_rfl) ?_; intro K hK)
              refine append_ls intOk rfl _ _ rfl wq.heap.size v6 (L.take k ++ [(m : Int)]) (by go_simp; first | done | rfl) L6.out _ (m - k) (c - k) (L.drop k) (by go_simp; first | done | rfl) (HG.out.mono intOk (HW.out.trans (J3.out.mono HW.out.size))) (by rw [List.length_append, List.length_take, List.length_singleton]; omega) J3.out.size ?_
              intro v10 d4 hl hb _ _
              have L10 := Lib.hid (show LsO intE d4 wq.heap.size v10 (ordL s (m + 1)) by rw [← HI.out]; exact hl)
              have J4 := Lib.hid (J3.out.trans hb)
              clear hl hb
              refine hK _ _ J4.out ?_
              go_simp
              (refine h_read 11 rfl (by kernel_rfl) (by kernel_rfl) (h_free rfl) ?_ ?_ ?_; rotate_left; (focus (intro v hv; go_simp; rfl)); go_simp)
              refine h_done (by kernel_rfl) ?_
              go_wp2_with fail
              go_roundw
              case rel => exact ⟨m + 1, _, rfl, by go_num, by omega, Lib.hid (L10.out.base B2.out.size), Lib.hid (B2.out.trans (J4.out.mono B2.out.size))⟩
              case measure => simp [intOf]; omega
        · obtain rfl : k = m := by omega
          have HI := Lib.hid (show L.take k ++ [(k : Int)] ++ L.drop k = ordL s (k + 1) by
              rw [← HIN.out, List.take_of_length_le (by rw [HLL.out]; exact Nat.le_refl _), List.drop_eq_nil_of_le (by rw [HLL.out]; exact Nat.le_refl _), List.append_nil]
              refine (insP_no _ _ L (fun y hy => ?_)).symm
              obtain ⟨i, hi, e⟩ := List.mem_iff_getElem.1 hy
              exact HP.out i (by rw [HLL.out] at hi; exact hi) y (by rw [List.getElem?_eq_getElem hi, e]))
          have HF := Lib.hid (HLS.out.first k (Nat.le_refl _))
          have HG := Lib.hid (HLS.out.rest k (Nat.le_refl _))
          go_wp2_with fail
          have hkc : k ≤ c := by omega
          have hkm2 : k ≤ k := by omega
          have HW := Lib.hid (show Below wo.heap.size wo wq from BQ.out)
          refine region_h (fun v => Below wq.heap.size wq v) (by kernel_rfl) (by kernel_rfl) (Below.refl _ _).drew ?_
          obtain ⟨d0, hd0⟩ : ∃ wd, wq.drew = wd := ⟨_, rfl⟩
          have J0 : Hid (Below wq.heap.size wq d0) := Lib.hid (by rw [← hd0]; exact (Below.refl _ _).drew)
          rw [hd0]
          clear hd0
          (refine h_read 0 rfl (by kernel_rfl) (by kernel_rfl) (h_free rfl) ?_ ?_ ?_; rotate_left; (focus (intro v hv; go_simp; rfl)); go_simp)
          (refine h_read 1 rfl (by kernel_rfl) (by kernel_rfl) (h_free rfl) ?_ ?_ ?_; rotate_left; (focus (intro v hv; go_simp; rfl)); go_simp)
          (refine h_read 2 rfl (by kernel_rfl) (by kernel_rfl) (h_free rfl) ?_ ?_ ?_; rotate_left; (focus (intro v hv; go_simp; (first | rw [if_pos hkc] | skip); (first | rw [if_pos hkm2] | skip); first | done | rfl)); go_simp)
          (refine h_read 4 rfl (by kernel_rfl) (by kernel_rfl) (h_free rfl) ?_ ?_ ?_; rotate_left; (focus (intro v hv; go_simp; rfl)); go_simp)
          (refine h_read 7 rfl (by kernel_rfl) (by kernel_rfl) (h_free rfl) ?_ ?_ ?_; rotate_left; (focus (intro v hv; go_simp; rfl)); go_simp)
          (refine h_read 8 rfl (by kernel_rfl) (by kernel_rfl) (h_free rfl) ?_ ?_ ?_; rotate_left; (focus (intro v hv; go_simp; rfl)); go_simp)
          (refine h_read 9 rfl (by kernel_rfl) (by kernel_rfl) (h_free rfl) ?_ ?_ ?_; rotate_left; (focus (intro v hv; go_simp; (first | rw [if_pos hkc] | skip); (first | rw [if_pos hkm2] | skip); first | done | rfl)); go_simp)
          refine h_two 3 5 rfl rfl (by kernel_rfl) ?_ ?_
          · intro K hK
            refine append_ls intOk rfl _ _ rfl wq.heap.size (.slice none 0 0) [] (by go_simp; first | done | rfl) (LsO.nil _ _) a k c (L.take k) (by go_simp; first | done | rfl) ((HF.out.mono intOk (HW.out.trans (J0.out.mono HW.out.size)))) (by simp; omega) J0.out.size ?_
            intro v3 d1 hl hb _ _
            have L3 := Lib.hid (show LsO intE d1 wq.heap.size v3 (L.take k) by simpa using hl)
            have J1 := Lib.hid (J0.out.trans hb)
            clear hl hb
            refine hK _ _ J1.out ?_
            go_simp
            clear hK K
            (refine h_list 5 rfl (by kernel_rfl) ?_; intro K hK)
            refine bi1 rfl _ rfl (k : Int) (by go_simp; first | done | rfl) SM.out ?_
            intro d2 hsl hb hz
            have LB := Lib.hid (show Ls intE d2 (some ⟨d1.heap.size, 0, none⟩) 1 1 [(k : Int)] from hsl.ls (by decide) (by decide) (fun h => by cases h))
            have J2 := Lib.hid (J1.out.trans (hb.mono J1.out.size))
            obtain ⟨gx, hgx⟩ : ∃ gx, d1.heap.size = gx := ⟨_, rfl⟩
            rw [hgx] at LB ⊢
            have L3 := Lib.hid (L3.out.kept hb)
            clear hgx
            clear hsl hb hz
            refine hK _ _ J2.out ?_
            go_simp
            clear hK K
            (refine h_list 6 rfl (by kernel_rfl) ?_; intro K hK)
            refine append_ls intOk rfl _ _ rfl wq.heap.size v3 (L.take k) (by go_simp; first | done | rfl) L3.out (some ⟨gx, 0, none⟩) 1 1 [(k : Int)] (by go_simp; first | done | rfl) LB.out (by rw [List.length_take]; omega) J2.out.size ?_
            intro v6 d3 hl hb _ _
            have L6 := Lib.hid hl
            have J3 := Lib.hid (J2.out.trans hb)
            clear hl hb
            refine hK _ _ J3.out ?_
            go_simp
            (refine h_list 10 rfl (by kernel_rfl) ?_; intro K hK)
            refine append_ls intOk rfl _ _ rfl wq.heap.size v6 (L.take k ++ [(k : Int)]) (by go_simp; first | done | rfl) L6.out _ (k - k) (c - k) (L.drop k) (by go_simp; first | done | rfl) (HG.out.mono intOk (HW.out.trans (J3.out.mono HW.out.size))) (by rw [List.length_append, List.length_take, List.length_singleton]; omega) J3.out.size ?_
            intro v10 d4 hl hb _ _
            have L10 := Lib.hid (show LsO intE d4 wq.heap.size v10 (ordL s (k + 1)) by rw [← HI.out]; exact hl)
            have J4 := Lib.hid (J3.out.trans hb)
            clear hl hb
            refine hK _ _ J4.out ?_
            go_simp
            (refine h_read 11 rfl (by kernel_rfl) (by kernel_rfl) (h_free rfl) ?_ ?_ ?_; rotate_left; (focus (intro v hv; go_simp; rfl)); go_simp)
            refine h_done (by kernel_rfl) ?_
            go_wp2_with fail
            go_roundw
            case rel => exact ⟨k + 1, _, rfl, by go_num, by omega, Lib.hid (L10.out.base B2.out.size), Lib.hid (B2.out.trans (J4.out.mono B2.out.size))⟩
            case measure => simp [intOf]; omega
          · intro K hK
            refine bi1 rfl _ rfl (k : Int) (by go_simp; first | done | rfl) SM.out ?_
            intro d1 hsl hb hz
            have LB := Lib.hid (show Ls intE d1 (some ⟨d0.heap.size, 0, none⟩) 1 1 [(k : Int)] from hsl.ls (by decide) (by decide) (fun h => by cases h))
            have J1 := Lib.hid (J0.out.trans (hb.mono J0.out.size))
            obtain ⟨gx, hgx⟩ : ∃ gx, d0.heap.size = gx := ⟨_, rfl⟩
            rw [hgx] at LB ⊢
            clear hgx
            clear hsl hb hz
            refine hK _ _ J1.out ?_
            go_simp
            clear hK K
            (refine h_list 3 rfl (by kernel_rfl) ?_; intro K hK)
            refine append_ls intOk rfl _ _ rfl wq.heap.size (.slice none 0 0) [] (by go_simp; first | done | rfl) (LsO.nil _ _) a k c (L.take k) (by go_simp; first | done | rfl) ((HF.out.mono intOk (HW.out.trans (J1.out.mono HW.out.size)))) (by simp; omega) J1.out.size ?_
            intro v3 d2 hl hb hgr _
            have HB12 := Lib.hid (show Below d1.heap.size d1 d2 from below_none hgr)
            have L3 := Lib.hid (show LsO intE d2 wq.heap.size v3 (L.take k) by simpa using hl)
            have J2 := Lib.hid (J1.out.trans hb)
            have LB := Lib.hid (LB.out.mono intOk HB12.out)
            clear hl hb HB12
            refine hK _ _ J2.out ?_
            go_simp
            clear hK K
            (refine h_list 6 rfl (by kernel_rfl) ?_; intro K hK)
            refine append_ls intOk rfl _ _ rfl wq.heap.size v3 (L.take k) (by go_simp; first | done | rfl) L3.out (some ⟨gx, 0, none⟩) 1 1 [(k : Int)] (by go_simp; first | done | rfl) LB.out (by rw [List.length_take]; omega) J2.out.size ?_
            intro v6 d3 hl hb _ _
            have L6 := Lib.hid hl
            have J3 := Lib.hid (J2.out.trans hb)
            clear hl hb
            refine hK _ _ J3.out ?_
            go_simp
            (refine h_list 10 rfl (by kernel_rfl) ?_; intro K hK)
            refine append_ls intOk rfl _ _ rfl wq.heap.size v6 (L.take k ++ [(k : Int)]) (by go_simp; first | done | rfl) L6.out _ (k - k) (c - k) (L.drop k) (by go_simp; first | done | rfl) (HG.out.mono intOk (HW.out.trans (J3.out.mono HW.out.size))) (by rw [List.length_append, List.length_take, List.length_singleton]; omega) J3.out.size ?_
            intro v10 d4 hl hb _ _
            have L10 := Lib.hid (show LsO intE d4 wq.heap.size v10 (ordL s (k + 1)) by rw [← HI.out]; exact hl)
            have J4 := Lib.hid (J3.out.trans hb)
            clear hl hb
            refine hK _ _ J4.out ?_
            go_simp
            (refine h_read 11 rfl (by kernel_rfl) (by kernel_rfl) (h_free rfl) ?_ ?_ ?_; rotate_left; (focus (intro v hv; go_simp; rfl)); go_simp)
            refine h_done (by kernel_rfl) ?_
            go_wp2_with fail
            go_roundw
            case rel => exact ⟨k + 1, _, rfl, by go_num, by omega, Lib.hid (L10.out.base B2.out.size), Lib.hid (B2.out.trans (J4.out.mono B2.out.size))⟩
            case measure => simp [intOf]; omega
    · obtain rfl : m = N := by omega
      by_cases h7 : (m : Int) < 7
      · have hmn := hN0 h7
        go_wp2_with fail
        go_ret
        rw [HO.out]
        exact ⟨_, rfl, HL.out, HB.out⟩
      · by_cases hmn : (m : Int) < n
        · go_wp2_with fail
          go_ret
          rw [HO.out]
          exact ⟨_, rfl, HL.out, HB.out⟩
        · go_wp2_with fail
          go_ret
          rw [HO.out]
          exact ⟨_, rfl, HL.out, HB.out⟩
end Go.Proofs.YthbbiiegbddpdaaDoor.W
