import Derived.Test.YtkfhppbmnjmnoaaGreatDoorCzB
import Derived.Test.YtkfhppbmnjmnoaaGreatDoorShaS
import Derived.Test.YtkfhppbmnjmnoaaGreatDoorBi
import Derived.Test.YtkfhppbmnjmnoaaGreatDoorArr
import Derived.Lib.MinMax
import Derived.Test.YtkfhppbmnjmnoaaGreatDoorSt
/- LAYER 28 (chunk): the reference's Used, Loose, rest, Intact, copied. -/
set_option linter.unusedSimpArgs false
set_option linter.unusedVariables false
namespace Go.Proofs.YtkfhppbmnjmnoaaGreatDoor.W
open Go Go.ChangeShapes Go.WideShapes Go.ChangeAt Go.RowKit
open Go.Proofs.YtkfhppbmnjmnoaaGreatDoor.P (shaL shaL_len)

set_option maxRecDepth 100000 in
set_option maxHeartbeats 4000000 in
theorem xcrest (i n : Int) (w : World) (hn : 0 < n ∧ n ≤ 1000000000) :
    Calls Tryz.prog 73 #[.int .i64 i, .int .i64 n] w fun e w' => e = .returned (.int .i64 (i % n)) ∧ w = w' := by
  have hm := modulo_eq i n hn.1
  have g0 : (n == 0) = false := by simp; omega
  have g1 : ¬ n = 0 := by omega
  have h1 := Int.tmod_lt_of_pos i hn.1
  have h2 : -n < i.tmod n := by
    have h3 := Int.tmod_lt_of_pos (-i) hn.1
    rw [Int.neg_tmod] at h3; omega
  have hw0 : IntKind.i64.wrap (i.tmod n) = i.tmod n := by rw [IntKind.wrap_i64]; omega
  have hw1 : IntKind.i64.wrap (i.tmod n + n) = i.tmod n + n := by rw [IntKind.wrap_i64]; omega
  have he := Int.emod_lt_of_pos i hn.1
  have he0 := Int.emod_nonneg i g1
  have hw2 : IntKind.i64.wrap (i % n) = i % n := by rw [IntKind.wrap_i64]; omega
  obtain ⟨x, hx⟩ : ∃ x, i.tmod n = x := ⟨_, rfl⟩
  obtain ⟨y, hy⟩ : ∃ y, i % n = y := ⟨_, rfl⟩
  rw [hx] at hm hw0 hw1 h1 h2
  rw [hy] at hm hw2 ⊢
  obtain ⟨z, hz⟩ : ∃ z, x + n = z := ⟨_, rfl⟩
  rw [hz] at hm hw1
  have hw3 : IntKind.i64.wrap (z.tmod n) = y := by rw [hm]; exact hw2
  clear hy he he0
  go_enter Tryz.func73, Tryz.ntmps73
  go_wp2_with fail
  go_ret
  exact ⟨rfl, rfl⟩
theorem take_fy (Y : List FY) (k : Nat) (y : FY) (h : Y[k]? = some y) : (Y.take (k + 1)).map (·.f) = (Y.take k).map (·.f) ++ [y.f] := take_next Y (·.f) k y h
set_option maxRecDepth 100000 in
set_option maxHeartbeats 4000000 in
theorem xcused {w : World} {q n c : Nat} {most : Int} {a : Option Addr} {Y : List FY} {T : Nat → Prop} (h : XK w q most a n c Y T) (hn : n ≤ 524288) (h256 : ∀ y ∈ Y, y.f.b.length ≤ 256) :
    Calls Tryz.prog 15 #[.pointer (some ⟨q, 0, none⟩)] w fun e w' => e = .returned (.int .i64 (usedC (Y.map (·.f)) : Nat)) ∧ w = w' := by
  have H := Lib.hid h
  have c0 := h.rp.k2.1
  have HL := Lib.hid h.ls.hlen
  have H256 := Lib.hid h256
  clear h h256
  go_enter Tryz.func15, Tryz.ntmps15
  go_wp2_with fail
  go_loopw [3, 4] (fun u i wr => ∃ (k : Nat), i = .int .i64 (k : Int) ∧ k ≤ n ∧ u = .int .i64 ((usedC ((Y.take k).map (·.f)) : Nat) : Int) ∧ Hid (w = wr)) (fun _ i _ => n - (intOf i).toNat)
  case atStart => exact ⟨0, rfl, Nat.zero_le _, rfl, Lib.hid rfl⟩
  case round =>
    obtain ⟨k, rfl, hk, rfl, hw⟩ := hrel
    obtain rfl := hw.out
    by_cases hlt : k < n
    · obtain ⟨b, off, y, rfl, hy, hc, hf⟩ := H.out.ls.at fiOk (Below.refl _ _) k hlt
      have d1 : w.cell? ⟨b, off + k * 4 + 1, none⟩ = some (.slice y.ba y.bn y.bc) := hc 1 (.slice y.ba y.bn y.bc) rfl
      have g1 : (0 : Int) ≤ (k : Int) := by omega
      have g2 : (k : Int) < (n : Int) := by omega
      have hbl := hf.rb.hlen
      have hb := H256.out y (List.mem_of_getElem? hy)
      have e2 := Lib.hid (take_fy Y k y hy)
      have hD := used_le (L := (Y.take k).map (·.f)) (fun f hf => by obtain ⟨z, hz, rfl⟩ := List.mem_map.1 hf; exact H256.out z (List.mem_of_mem_take hz))
      rw [List.length_map, List.length_take] at hD
      have e3 := Lib.hid (used_app ((Y.take k).map (·.f)) [y.f])
      have e4 : usedC [y.f] = y.bn := by simp [usedC, hbl]
      rw [e4] at e3
      obtain ⟨U, hU⟩ : ∃ U, usedC ((Y.take k).map (·.f)) = U := ⟨_, rfl⟩
      rw [hU] at hD e3 ⊢
      have hD2 : U ≤ 524288 * 256 := by have h3 : min k Y.length * 256 ≤ 524288 * 256 := Nat.mul_le_mul_right _ (by omega); omega
      obtain ⟨bl, hbe⟩ : ∃ bl, y.bn = bl := ⟨_, rfl⟩
      have hb2 : bl ≤ 256 := by omega
      rw [hbe] at d1 e3
      have hw : IntKind.i64.wrap ((U : Int) + (bl : Int)) = (U : Int) + bl := by rw [IntKind.wrap_i64]; omega
      clear hc hf hbl hb e4 hU hD hbe
      go_wp2_with fail
      go_roundw
      case rel => exact ⟨k + 1, vint (by omega), by omega, vint (by rw [e2.out, e3.out]; omega), Lib.hid trivial⟩
      case measure => simp [intOf]; omega
    · obtain rfl : n = k := by omega
      go_wp2_with fail
      go_ret
      exact ⟨one (vint (by rw [← HL.out, List.take_of_length_le (by simp)])), rfl⟩
set_option maxRecDepth 100000 in
set_option maxHeartbeats 4000000 in
theorem xcloose {w : World} {q n c : Nat} {most : Int} {a : Option Addr} {Y : List FY} {T : Nat → Prop} (h : XK w q most a n c Y T) (hn : n ≤ 524288) :
    Calls Tryz.prog 17 #[.pointer (some ⟨q, 0, none⟩)] w fun e w' => e = .returned (.int .i64 (looseC (Y.map (·.f)) : Nat)) ∧ Below w.heap.size w w' := by
  have H := Lib.hid h
  have HL := Lib.hid h.ls.hlen
  clear h
  go_enter Tryz.func17, Tryz.ntmps17
  go_wp2_with fail
  go_loopw [3, 4] (fun u i wr => ∃ (k : Nat), i = .int .i64 (k : Int) ∧ k ≤ n ∧ u = .int .i64 ((looseC ((Y.take k).map (·.f)) : Nat) : Int) ∧ Hid (Below w.heap.size w wr)) (fun _ i _ => n - (intOf i).toNat)
  case atStart => exact ⟨0, rfl, Nat.zero_le _, rfl, Lib.hid (Below.refl _ _)⟩
  case round =>
    obtain ⟨k, rfl, hk, rfl, B⟩ := hrel
    have c0 := (H.out.mono B.out).rp.k2.1
    by_cases hlt : k < n
    · obtain ⟨b, off, y, rfl, hy, hc, hf⟩ := (H.out.mono B.out).ls.at fiOk (Below.refl _ _) k hlt
      have D2 := Lib.hid (show wr.cell? ⟨b, off + k * 4 + 2, none⟩ = some (.int .i64 (y.f.su : Int)) from hc 2 (.int .i64 (y.f.su : Int)) rfl)
      have D1 := Lib.hid (show wr.cell? ⟨b, off + k * 4 + 1, none⟩ = some (.slice y.ba y.bn y.bc) from hc 1 (.slice y.ba y.bn y.bc) rfl)
      have BL := Lib.hid (((H.out.mono B.out).Ta b off none rfl).2.lt)
      have g1 : (0 : Int) ≤ (k : Int) := by omega
      have g2 : (k : Int) < (n : Int) := by omega
      have e2 := Lib.hid (take_fy Y k y hy)
      have e3 := Lib.hid (loose_app ((Y.take k).map (·.f)) [y.f])
      have hle : looseC ((Y.take k).map (·.f)) ≤ 524288 := by
        unfold looseC
        refine Nat.le_trans (List.length_filter_le _ _) ?_
        rw [List.length_map, List.length_take]; omega
      obtain ⟨U, hU⟩ : ∃ U, looseC ((Y.take k).map (·.f)) = U := ⟨_, rfl⟩
      rw [hU] at hle e3 ⊢
      have hbl := hf.rb.hlen
      have e4 : looseC [y.f] = if y.f.su < y.bn then 1 else 0 := by
        unfold looseC isLoose
        rw [← hbl]
        by_cases h1 : y.f.su < y.f.b.length <;> simp [h1]
      rw [e4] at e3
      obtain ⟨su, hsu⟩ : ∃ su, y.f.su = su := ⟨_, rfl⟩
      obtain ⟨bl, hbe⟩ : ∃ bl, y.bn = bl := ⟨_, rfl⟩
      rw [hsu] at D2 e3
      rw [hbe] at D1 e3
      have hw : IntKind.i64.wrap ((U : Int) + 1) = (U : Int) + 1 := by rw [IntKind.wrap_i64]; omega
      have CH := Lib.hid (H.out.mono B.out)
      clear hc hf hbl e4 hU hsu hbe
      go_wp2_with fail
      refine region_h (fun v => Below wr.heap.size wr v) (by kernel_rfl) (by kernel_rfl) (Below.refl _ _).drew ?_
      (refine h_read 0 rfl (by kernel_rfl) (by kernel_rfl) (h_free rfl) ?_ ?_ ?_; rotate_left; (focus (intro v hv; go_simp; rfl)); go_simp)
      (refine h_read 1 rfl (by kernel_rfl) (by kernel_rfl) (h_free rfl) ?_ ?_ ?_; rotate_left; (focus (intro v hv; go_simp; rfl)); go_simp)
      (refine h_read 2 rfl (by kernel_rfl) (by kernel_rfl) (h_free rfl) ?_ ?_ ?_; rotate_left; (focus (intro v hv; go_simp; rfl)); go_simp)
      (refine h_read 3 rfl (by kernel_rfl) (by kernel_rfl) (h_free rfl) ?_ ?_ ?_; rotate_left; (focus (intro v hv; have c0 := (hv.cell (p := ⟨q, 0, none⟩) CH.out.rp.lt).trans CH.out.rp.k2.1; have d1 := (hv.cell (p := ⟨b, off + k * 4 + 1, none⟩) BL.out).trans D1.out; have d2 := (hv.cell (p := ⟨b, off + k * 4 + 2, none⟩) BL.out).trans D2.out; go_simp; rfl)); go_simp)
      (refine h_read 4 rfl (by kernel_rfl) (by kernel_rfl) (h_free rfl) ?_ ?_ ?_; rotate_left; (focus (intro v hv; go_simp; rfl)); go_simp)
      (refine h_read 5 rfl (by kernel_rfl) (by kernel_rfl) (h_free rfl) ?_ ?_ ?_; rotate_left; (focus (intro v hv; go_simp; rfl)); go_simp)
      (refine h_read 6 rfl (by kernel_rfl) (by kernel_rfl) (h_free rfl) ?_ ?_ ?_; rotate_left; (focus (intro v hv; go_simp; rfl)); go_simp)
      (refine h_read 7 rfl (by kernel_rfl) (by kernel_rfl) (h_free rfl) ?_ ?_ ?_; rotate_left; (focus (intro v hv; have c0 := (hv.cell (p := ⟨q, 0, none⟩) CH.out.rp.lt).trans CH.out.rp.k2.1; have d1 := (hv.cell (p := ⟨b, off + k * 4 + 1, none⟩) BL.out).trans D1.out; have d2 := (hv.cell (p := ⟨b, off + k * 4 + 2, none⟩) BL.out).trans D2.out; go_simp; rfl)); go_simp)
      (refine h_read 8 rfl (by kernel_rfl) (by kernel_rfl) (h_free rfl) ?_ ?_ ?_; rotate_left; (focus (intro v hv; go_simp; rfl)); go_simp)
      (refine h_read 9 rfl (by kernel_rfl) (by kernel_rfl) (h_free rfl) ?_ ?_ ?_; rotate_left; (focus (intro v hv; go_simp; rfl)); go_simp)
      (refine h_read 10 rfl (by kernel_rfl) (by kernel_rfl) (h_free rfl) ?_ ?_ ?_; rotate_left; (focus (intro v hv; go_simp; rfl)); go_simp)
      (refine h_read 11 rfl (by kernel_rfl) (by kernel_rfl) (h_free rfl) ?_ ?_ ?_; rotate_left; (focus (intro v hv; have c0 := (hv.cell (p := ⟨q, 0, none⟩) CH.out.rp.lt).trans CH.out.rp.k2.1; have d1 := (hv.cell (p := ⟨b, off + k * 4 + 1, none⟩) BL.out).trans D1.out; have d2 := (hv.cell (p := ⟨b, off + k * 4 + 2, none⟩) BL.out).trans D2.out; go_simp; rfl)); go_simp)
      (refine h_read 12 rfl (by kernel_rfl) (by kernel_rfl) (h_free rfl) ?_ ?_ ?_; rotate_left; (focus (intro v hv; go_simp; rfl)); go_simp)
      (refine h_read 13 rfl (by kernel_rfl) (by kernel_rfl) (h_free rfl) ?_ ?_ ?_; rotate_left; (focus (intro v hv; go_simp; rfl)); go_simp)
      (refine h_read 14 rfl (by kernel_rfl) (by kernel_rfl) (h_free rfl) ?_ ?_ ?_; rotate_left; (focus (intro v hv; go_simp; rfl)); go_simp)
      (refine h_read 15 rfl (by kernel_rfl) (by kernel_rfl) (h_free rfl) ?_ ?_ ?_; rotate_left; (focus (intro v hv; have c0 := (hv.cell (p := ⟨q, 0, none⟩) CH.out.rp.lt).trans CH.out.rp.k2.1; have d1 := (hv.cell (p := ⟨b, off + k * 4 + 1, none⟩) BL.out).trans D1.out; have d2 := (hv.cell (p := ⟨b, off + k * 4 + 2, none⟩) BL.out).trans D2.out; go_simp; rfl)); go_simp)
      (refine h_read 16 rfl (by kernel_rfl) (by kernel_rfl) (h_free rfl) ?_ ?_ ?_; rotate_left; (focus (intro v hv; go_simp; rfl)); go_simp)
      (refine h_read 17 rfl (by kernel_rfl) (by kernel_rfl) (h_free rfl) ?_ ?_ ?_; rotate_left; (focus (intro v hv; go_simp; rfl)); go_simp)
      refine h_done (by kernel_rfl) ?_
      by_cases h1 : su < bl
      · have g3 : (su : Int) < (bl : Int) := by omega
        rw [if_pos h1] at e3
        go_wp2_with fail
        go_roundw
        case rel => exact ⟨k + 1, vint (by omega), by omega, vint (by rw [e2.out, e3.out]; omega), Lib.hid (B.out.drew)⟩
        case measure => simp [intOf]; omega
      · have g3 : ¬ (su : Int) < (bl : Int) := by omega
        rw [if_neg h1] at e3
        go_wp2_with fail
        go_roundw
        case rel => exact ⟨k + 1, vint (by omega), by omega, vint (by rw [e2.out, e3.out]; omega), Lib.hid (B.out.drew)⟩
        case measure => simp [intOf]; omega
    · obtain rfl : n = k := by omega
      go_wp2_with fail
      go_ret
      exact ⟨one (vint (by rw [← HL.out, List.take_of_length_le (by simp)])), B.out⟩
set_option maxRecDepth 100000 in
set_option maxHeartbeats 4000000 in
theorem xcintact (y : FY) (w : World) (h : FYr w y) :
    Calls Tryz.prog 26 #[.agg y.cells.toArray] w fun e w' => e = .returned (.bool (intactC y.f)) ∧ Below w.heap.size w w' := by
  have HR := Lib.hid h.rb
  have HN := Lib.hid h.b1
  obtain ⟨⟨s, b, su, t⟩, ba, bn, bc, ta, tn, tc⟩ := y
  show Calls Tryz.prog 26 #[.agg (fiC s (.slice ba bn bc) su (.slice ta tn tc)).toArray] w fun e w' => e = .returned (.bool (decide (sumOf b = s))) ∧ Below w.heap.size w w'
  dsimp only at HR HN
  obtain ⟨V, hV⟩ : ∃ V, decide (sumOf b = s) = V := ⟨_, rfl⟩
  have HV := Lib.hid hV
  rw [hV]
  clear h hV
  go_enter Tryz.func26, Tryz.ntmps26
  go_wp2_with (first
    | ((with_reducible refine box_row (o := ⟨some 1, _, _, _, _, _⟩) rfl _ _ rfl (fiC s (.slice ba bn bc) su (.slice ta tn tc)) rfl ?_); intro w1 hr hb hz; have R1 := Lib.hid hr; have B1 := Lib.hid hb; clear hr hb hz))
  refine region_h (fun v => Below w1.heap.size w1 v) (by kernel_rfl) (by kernel_rfl) (Below.refl _ _).drew ?_
  (refine h_read 0 rfl (by kernel_rfl) (by kernel_rfl) (h_free rfl) ?_ ?_ ?_; rotate_left; (focus (intro v hv; go_simp; rfl)); go_simp)
  (refine h_read 1 rfl (by kernel_rfl) (by kernel_rfl) (h_free rfl) ?_ ?_ ?_; rotate_left; (focus (intro v hv; have c0 := (hv.cell (p := ⟨w.heap.size, 0, none⟩) R1.out.lt).trans R1.out.k4.1; have c1 := (hv.cell (p := ⟨w.heap.size, 1, none⟩) R1.out.lt).trans R1.out.k4.2.1; go_simp; rfl)); go_simp)
  (refine h_read 3 rfl (by kernel_rfl) (by kernel_rfl) (h_free rfl) ?_ ?_ ?_; rotate_left; (focus (intro v hv; go_simp; rfl)); go_simp)
  (refine h_read 4 rfl (by kernel_rfl) (by kernel_rfl) (h_free rfl) ?_ ?_ ?_; rotate_left; (focus (intro v hv; have c0 := (hv.cell (p := ⟨w.heap.size, 0, none⟩) R1.out.lt).trans R1.out.k4.1; have c1 := (hv.cell (p := ⟨w.heap.size, 1, none⟩) R1.out.lt).trans R1.out.k4.2.1; go_simp; rfl)); go_simp)
  (refine h_call 2 rfl (by kernel_rfl) (h_free rfl) 20 ?_ ?_ ?_; rotate_left; (focus (go_simp; rfl)))
  refine (rsum_any ba bn bc b w1.drew ?_ ?_).mono ?_
  · exact HR.out.mono B1.out.drew
  · have := HN.out; omega
  rintro e w4 ⟨rfl, hb4⟩
  refine ⟨_, rfl, (Below.refl _ _).drew.trans (hb4.mono (Nat.le_refl _)), ?_⟩
  go_simp
  (refine h_read 5 rfl (by kernel_rfl) (by kernel_rfl) (h_free rfl) ?_ ?_ ?_; rotate_left; (focus (intro v hv; go_simp; rfl)); go_simp)
  (refine h_read 6 rfl (by kernel_rfl) (by kernel_rfl) (h_free rfl) ?_ ?_ ?_; rotate_left; (focus (intro v hv; go_simp; rfl)); go_simp)
  refine h_done (by kernel_rfl) ?_
  go_wp2_with fail
  go_ret
  exact ⟨one (vbool (by rw [← HV.out]; exact eqM_dec _ _)), B1.out.trans ((Below.drew (Below.refl _ _) |>.trans hb4).mono B1.out.size)⟩
end Go.Proofs.YtkfhppbmnjmnoaaGreatDoor.W

/- LAYER 28 (chunk): the reference's copied, timed, Get, Has. -/
set_option linter.unusedSimpArgs false
set_option linter.unusedVariables false
namespace Go.Proofs.YtkfhppbmnjmnoaaGreatDoor.W
open Go Go.ChangeShapes Go.WideShapes Go.ChangeAt Go.RowKit
open Go.Proofs.YtkfhppbmnjmnoaaGreatDoor.P (shaL shaL_len)

set_option maxRecDepth 100000 in
set_option maxHeartbeats 4000000 in
theorem xccopied0 (s : ByteArray) (b : List UInt8) (su : Nat) (t : List Int) (x : Option Addr) (n c : Nat) (z : Option Addr) (k ck : Nat) (w : World) (hr : Rd w x n c b) (hn : n ≤ 1000000) (hl : Ls intE w z k ck t) (hk : k ≤ 1000) :
    Calls Tryz.prog 49 #[.agg (fiC s (.slice x n c) su (.slice z k ck)).toArray] w fun e w' => ∃ bv tv, e = .returned (.agg (fiC s bv su tv).toArray) ∧ Fr w' w.heap.size bv b ∧ LsO intE w' w.heap.size tv t ∧ Below w.heap.size w w' := by
  have HR := Lib.hid hr
  have HN := Lib.hid hn
  have HL := Lib.hid hl
  have HKK := Lib.hid hk
  have FZ := Lib.hid file_zero
  have SZ := Lib.hid file_size
  clear hr hn hl hk
  go_enter Tryz.func49, Tryz.ntmps49
  go_wp2_with (first
    | ((with_reducible refine box_row (o := ⟨some 1, _, _, _, _, _⟩) rfl _ _ rfl (fiC s (.slice x n c) su (.slice z k ck)) rfl ?_); intro w1 hr hb hz; have R1 := Lib.hid hr; have B1 := Lib.hid hb; have L1 := Lib.hid (show w.heap.size < w1.heap.size by omega); clear hr hb hz)
    | ((with_reducible refine alloc_row (o := ⟨some 2, _, _, _, _, _⟩) rfl _ rfl _ FZ.out ?_); intro w2 hr hb hz; have R22 := Lib.hid hr; have R12 := Lib.hid (R1.out.below hb R1.out.lt); have B2 := Lib.hid (B1.out.trans (hb.mono B1.out.size)); have L2 := Lib.hid (show w1.heap.size < w2.heap.size by omega); have q1 := R12.out.k4.2.1; clear hr hb hz)
    | (at_builtin; (with_reducible refine append_rd (o := ⟨some 5, _, _, _, _, _⟩) rfl _ _ rfl w2.heap.size (.slice none 0 0) [] ?_ (Fr.nil _ _) x n c b ?_ (HR.out.mono B2.out) ?_ (Nat.le_refl _) ?_); (focus (first | (go_simp; done) | (go_simp; rfl))); (focus (first | (go_simp; done) | (go_simp; rfl))); (focus (have := HN.out; simp; omega)); intro v5 w5 hf hb _; have F5 := Lib.hid (show Fr w5 w2.heap.size v5 b from hf); have B5 := Lib.hid hb; have R15 := Lib.hid (R12.out.below hb R12.out.lt); have R25 := Lib.hid (R22.out.below hb R22.out.lt); have FG := Lib.hid (fun g e => (World.ownsRow.lt F5.out g e).1); have FB := Lib.hid (fr_one F5.out); have FC := Lib.hid (fr_cell F5.out); clear hf hb q1)
    | ((with_reducible refine store_cell (o := ⟨none, _, _, _, _, _⟩) rfl _ (.tmp 6) _ rfl w.heap.size 1 v5 ?_ ?_ FC.out FB.out 44 _ R15.out size_bs ?_ ?_); (focus go_simp); (focus (first | (go_simp; done) | (go_simp; rfl))); (focus (show 1 < 4; decide)); intro w7 hr hu; have R7 := Lib.hid (show Row w7 w.heap.size 44 (fiC s v5 su (.slice z k ck)) from hr); have R27 := Lib.hid (R25.out.upd hu (Nat.ne_of_gt L1.out)); have F7 := Lib.hid (F5.out.keep fun g e => hu.block g (Nat.ne_of_gt (Nat.lt_trans L1.out (Nat.lt_of_lt_of_le L2.out (FG.out g e))))); have B7 := Lib.hid ((B2.out.trans (B5.out.mono B2.out.size)).trans (hu.below (Nat.le_refl _))); have Z7 := Lib.hid (show w2.heap.size ≤ w7.heap.size by rw [hu.size]; exact B5.out.size); have q3 := R7.out.k4.2.2.2; clear hr hu)
    | (at_builtin; (with_reducible refine append_ls (o := ⟨some 9, _, _, _, _, _⟩) intOk rfl _ _ rfl w7.heap.size (.slice none 0 0) [] ?_ (LsO.nil _ _) z k ck t ?_ (HL.out.mono intOk B7.out) ?_ (Nat.le_refl _) ?_); (focus (first | (go_simp; done) | (go_simp; rfl))); (focus (first | (go_simp; done) | (go_simp; rfl))); (focus (have := HKK.out; simp; omega)); intro v9 w9 hN hb _ _; have T9 := Lib.hid (show LsO intE w9 w7.heap.size v9 t from hN); have F9 := Lib.hid (F7.out.kept hb); have B9 := Lib.hid (B7.out.trans (hb.mono B7.out.size)); have R19 := Lib.hid (R7.out.below hb R7.out.lt); have R29 := Lib.hid (R27.out.below hb R27.out.lt); have TG := Lib.hid (fun g e => (World.ownsRow.lt T9.out g e).1); have FT := Lib.hid (lso_cell T9.out); have FTC := Lib.hid (lso_cells T9.out); clear hN hb q3)
    | ((with_reducible refine store_cell (o := ⟨none, _, _, _, _, _⟩) rfl _ (.tmp 10) _ rfl w.heap.size 3 v9 ?_ ?_ FTC.out FT.out 44 _ R19.out size_is ?_ ?_); (focus go_simp); (focus (first | (go_simp; done) | (go_simp; rfl))); (focus (show 3 < 4; decide)); intro w10 hr hu; have R10 := Lib.hid (show Row w10 w.heap.size 44 (fiC s v5 su v9) from hr); have R210 := Lib.hid (R29.out.upd hu (Nat.ne_of_gt L1.out)); have F10 := Lib.hid (F9.out.keep fun g e => hu.block g (Nat.ne_of_gt (Nat.lt_trans L1.out (Nat.lt_of_lt_of_le L2.out (FG.out g e))))); have T10 := Lib.hid (T9.out.keep fun g e => hu.block g (Nat.ne_of_gt (Nat.lt_trans L1.out (Nat.lt_of_lt_of_le L2.out (Nat.le_trans Z7.out (TG.out g e)))))); have B10 := Lib.hid (B9.out.trans (hu.below (Nat.le_refl _))); clear hr hu)
    | ((with_reducible refine load_row (o := ⟨some 11, _, _, _, _, _⟩) rfl _ _ rfl w.heap.size ?_ _ (fiC s v5 su v9) _ R10.out Tryz.underlying44 rfl ?_ ?_); (focus go_simp); (focus (exact SZ.out)))
    | ((with_reducible refine store_row (o := ⟨none, _, _, _, _, _⟩) rfl _ (.tmp 2) _ rfl w1.heap.size (fiC s v5 su v9) ?_ ?_ 44 _ R210.out ?_ ?_ ?_ ?_); (focus go_simp); (focus (first | (go_simp; done) | (go_simp; rfl))); (focus (exact SZ.out)); (focus rfl); (focus (exact fi_one s _ su _ FB.out FT.out)); intro w12 hr hu; have R12 := Lib.hid hr; have F12 := Lib.hid (F10.out.keep fun g e => hu.block g (Nat.ne_of_gt (Nat.lt_of_lt_of_le L2.out (FG.out g e)))); have T12 := Lib.hid (T10.out.keep fun g e => hu.block g (Nat.ne_of_gt (Nat.lt_of_lt_of_le L2.out (Nat.le_trans Z7.out (TG.out g e))))); have B12 := Lib.hid (B10.out.trans (hu.below B1.out.size)); clear hr hu))
  exact bodyPost_ret (results_cell_row rfl _ _ w1.heap.size 44 _ _ _ (by go_simp) R12.out Tryz.underlying44 rfl SZ.out) rfl ⟨_, _, rfl, F12.out.base B2.out.size, T12.out.base B7.out.size, B12.out⟩
theorem xccopied (y : FY) (w : World) (h : FYr w y) :
    Calls Tryz.prog 49 #[.agg y.cells.toArray] w fun e w' => ∃ bv tv, e = .returned (.agg (fiC y.f.s bv y.f.su tv).toArray) ∧ Fr w' w.heap.size bv y.f.b ∧ LsO intE w' w.heap.size tv y.f.t ∧ Below w.heap.size w w' :=
  xccopied0 y.f.s y.f.b y.f.su y.f.t y.ba y.bn y.bc y.ta y.tn y.tc w h.rb h.b1 h.rt h.t1
theorem timedL_skip {x : Int} : ∀ {A : List Int} (B : List Int), (∀ y ∈ A, y < x) → timedL (A ++ B) x = A ++ timedL B x
  | [], _, _ => rfl
  | y :: r, B, h => by
    have h1 := h y (List.mem_cons_self ..)
    rw [List.cons_append, timedL, if_neg (by omega), if_neg (by omega), timedL_skip B fun z hz => h z (List.mem_cons_of_mem _ hz)]; rfl
set_option maxRecDepth 100000 in
set_option maxHeartbeats 4000000 in
theorem xctimed (a : Option Addr) (n c : Nat) (L : List Int) (x : Int) (w : World) (h : Ls intE w a n c L) (hs : L.Pairwise (· < ·)) (hn : n ≤ 900) (hx : SI64 x) :
    Calls Tryz.prog 71 #[.slice a n c, .int .i64 x] w fun e w' => ∃ v, e = .returned v ∧ LsO intE w' w.heap.size v (timedL L x) ∧ Below w.heap.size w w' := by
  have H := Lib.hid h
  have HL := Lib.hid h.hlen
  have HS := Lib.hid hs
  have HX := Lib.hid hx
  clear h hs hx
  go_enter Tryz.func71, Tryz.ntmps71
  go_wp2_with fail
  go_loopw [5, 6, 7] (fun v d i wr => ∃ (k : Nat) (dn : Bool) (out : List Int), i = .int .i64 (k : Int) ∧ k ≤ n ∧ d = .bool dn ∧ out.length ≤ k + 1 ∧ Hid (LsO intE wr w.heap.size v out) ∧ Hid (Below w.heap.size w wr) ∧ Hid (dn = false → out = L.take k ∧ ∀ y ∈ L.take k, y < x) ∧ Hid (dn = true → out ++ L.drop k = timedL L x ∧ ∀ y ∈ L.drop k, x < y)) (fun _ _ i _ => n - (intOf i).toNat)
  case atStart => exact ⟨0, false, [], rfl, Nat.zero_le _, rfl, by simp, Lib.hid (LsO.nil _ _), Lib.hid (Below.refl _ _), Lib.hid (fun _ => ⟨rfl, by simp⟩), Lib.hid (fun h => by cases h)⟩
  case round =>
    obtain ⟨k, dn, out, rfl, hk, rfl, hol, O, B, PF, PT⟩ := hrel
    by_cases hlt : k < n
    · obtain ⟨b, off, y, rfl, hy, hc, hf⟩ := H.out.at intOk B.out k hlt
      have d0 : wr.cell? ⟨b, off + k, none⟩ = some (.int .i64 y) := by have := hc 0 (.int .i64 y) rfl; rw [show off + k * intE.k + 0 = off + k by show off + k * 1 + 0 = off + k; omega] at this; exact this
      have D0 := Lib.hid d0
      have BL := Lib.hid (show b < wr.heap.size from Nat.lt_of_lt_of_le (H.out.older (by omega) b off rfl) B.out.size)
      have HY := Lib.hid (show SI64 y from hf)
      have g1 : (0 : Int) ≤ (k : Int) := by omega
      have g2 : (k : Int) < (n : Int) := by omega
      have hkl : k < L.length := by rw [HL.out]; exact hlt
      have hyk : L[k] = y := (List.getElem?_eq_some_iff.1 hy).2
      have TK := Lib.hid (show L.take (k + 1) = L.take k ++ [y] by rw [List.take_succ_eq_append_getElem hkl, hyk])
      have DK := Lib.hid (show L.drop k = y :: L.drop (k + 1) by rw [List.drop_eq_getElem_cons hkl, hyk])
      have GT := Lib.hid (show ∀ z ∈ L.drop (k + 1), y < z by
        have h1 := HS.out
        rw [← List.take_append_drop k L, DK.out, List.pairwise_append] at h1
        exact (List.pairwise_cons.1 h1.2.1).1)
      have HYK := Lib.hid hy
      clear hc hf hkl hyk hy
      cases dn
      · by_cases hge : x ≤ y
        · by_cases heq : y = x
          · subst heq
            go_wp2_with (first
              | ((with_reducible refine bi1 (o := ⟨some 26, _, _, _, _, _⟩) rfl _ rfl y ?_ HX.out ?_); (focus (first | (go_simp; done) | (go_simp; rfl))); intro w26 hs hb hz; have S26 := Lib.hid (hs.ls (Nat.le_refl 1) (by omega) (fun e => by cases e)); have O26 := Lib.hid (O.out.kept hb); have B26 := Lib.hid (B.out.trans (hb.mono B.out.size)); clear hs hb hz)
              | (at_builtin; (with_reducible refine append_ls (o := ⟨some 27, _, _, _, _, _⟩) intOk rfl _ _ rfl w.heap.size _ (out) ?_ O26.out _ 1 1 [y] ?_ S26.out ?_ B26.out.size ?_); (focus (first | (go_simp; done) | (go_simp; rfl))); (focus (first | (go_simp; done) | (go_simp; rfl))); (focus (simp <;> omega)); intro v27 w27 hN hb _ _; have O27 := Lib.hid hN; have B27 := Lib.hid (B26.out.trans hb); have d1 : w27.cell? ⟨b, off + k, none⟩ = some (.int .i64 y) := (by have h1 := H.out.at intOk B27.out k hlt; obtain ⟨b', off', y', e1, e2, e3, -⟩ := h1; injection e1 with e1; injection e1 with e1 e4; subst e1 e4; have e5 := e3 0 (.int .i64 y') rfl; have e6 : y' = y := (by have := HYK.out; rw [e2] at this; exact Option.some.inj this); rw [e6] at e5; rw [show off + k * intE.k + 0 = off + k by show off + k * 1 + 0 = off + k; omega] at e5; exact e5); clear hN hb))
            go_roundw
            case rel => exact ⟨k + 1, true, out ++ [y], vint (by omega), by omega, rfl, by rw [List.length_append]; simp; omega, O27, B27, Lib.hid (fun h => by cases h), Lib.hid (fun _ => by
              obtain ⟨h1, h2⟩ := PF.out rfl
              refine ⟨?_, GT.out⟩
              conv => rhs; rw [← List.take_append_drop k L, DK.out, timedL_skip _ h2, timedL, if_neg (by omega), if_pos rfl]
              rw [h1]; simp)⟩
            case measure => simp [intOf]; omega
          · have HOL := Lib.hid (show (out ++ [x] ++ [y]).length ≤ k + 1 + 1 by
              have h9 : out.length ≤ k := by rw [(PF.out rfl).1, List.length_take]; omega
              rw [List.length_append, List.length_append]; simp; omega)
            go_wp2_with (first
              | ((with_reducible refine bi1 (o := ⟨some 26, _, _, _, _, _⟩) rfl _ rfl x ?_ HX.out ?_); (focus (first | (go_simp; done) | (go_simp; rfl))); intro w26 hs hb hz; have S26 := Lib.hid (hs.ls (Nat.le_refl 1) (by omega) (fun e => by cases e)); have O26 := Lib.hid (O.out.kept hb); have B26 := Lib.hid (B.out.trans (hb.mono B.out.size)); clear hs hb hz)
              | (at_builtin; (with_reducible refine append_ls (o := ⟨some 27, _, _, _, _, _⟩) intOk rfl _ _ rfl w.heap.size _ (out) ?_ O26.out _ 1 1 [x] ?_ S26.out ?_ B26.out.size ?_); (focus (first | (go_simp; done) | (go_simp; rfl))); (focus (first | (go_simp; done) | (go_simp; rfl))); (focus (simp <;> omega)); intro v27 w27 hN hb _ _; have O27 := Lib.hid hN; have B27 := Lib.hid (B26.out.trans hb); have d1 : w27.cell? ⟨b, off + k, none⟩ = some (.int .i64 y) := (by have h1 := H.out.at intOk B27.out k hlt; obtain ⟨b', off', y', e1, e2, e3, -⟩ := h1; injection e1 with e1; injection e1 with e1 e4; subst e1 e4; have e5 := e3 0 (.int .i64 y') rfl; have e6 : y' = y := (by have := HYK.out; rw [e2] at this; exact Option.some.inj this); rw [e6] at e5; rw [show off + k * intE.k + 0 = off + k by show off + k * 1 + 0 = off + k; omega] at e5; exact e5); clear hN hb)
              | ((with_reducible refine bi1 (o := ⟨some 39, _, _, _, _, _⟩) rfl _ rfl y ?_ HY.out ?_); (focus (first | (go_simp; done) | (go_simp; rfl))); intro w39 hs hb hz; have S39 := Lib.hid (hs.ls (Nat.le_refl 1) (by omega) (fun e => by cases e)); have O39 := Lib.hid (O27.out.kept hb); have B39 := Lib.hid (B27.out.trans (hb.mono B27.out.size)); clear hs hb hz)
              | (at_builtin; (with_reducible refine append_ls (o := ⟨some 40, _, _, _, _, _⟩) intOk rfl _ _ rfl w.heap.size _ (out ++ [x]) ?_ O39.out _ 1 1 [y] ?_ S39.out ?_ B39.out.size ?_); (focus (first | (go_simp; done) | (go_simp; rfl))); (focus (first | (go_simp; done) | (go_simp; rfl))); (focus (simp <;> omega)); intro v40 w40 hN hb _ _; have O40 := Lib.hid hN; have B40 := Lib.hid (B39.out.trans hb); clear hN hb))
            go_roundw
            case rel => exact ⟨k + 1, true, out ++ [x] ++ [y], vint (by omega), by omega, rfl, HOL.out, O40, B40, Lib.hid (fun h => by cases h), Lib.hid (fun _ => by
              obtain ⟨h1, h2⟩ := PF.out rfl
              refine ⟨?_, fun z hz => Int.lt_of_le_of_lt hge (GT.out z hz)⟩
              conv => rhs; rw [← List.take_append_drop k L, DK.out, timedL_skip _ h2, timedL, if_pos (by omega)]
              rw [h1]; simp)⟩
            case measure => simp [intOf]; omega
        · have heq : ¬ y = x := by omega
          go_wp2_with (first
              | ((with_reducible refine bi1 (o := ⟨some 39, _, _, _, _, _⟩) rfl _ rfl y ?_ HY.out ?_); (focus (first | (go_simp; done) | (go_simp; rfl))); intro w39 hs hb hz; have S39 := Lib.hid (hs.ls (Nat.le_refl 1) (by omega) (fun e => by cases e)); have O39 := Lib.hid (O.out.kept hb); have B39 := Lib.hid (B.out.trans (hb.mono B.out.size)); clear hs hb hz)
              | (at_builtin; (with_reducible refine append_ls (o := ⟨some 40, _, _, _, _, _⟩) intOk rfl _ _ rfl w.heap.size _ (out) ?_ O39.out _ 1 1 [y] ?_ S39.out ?_ B39.out.size ?_); (focus (first | (go_simp; done) | (go_simp; rfl))); (focus (first | (go_simp; done) | (go_simp; rfl))); (focus (simp <;> omega)); intro v40 w40 hN hb _ _; have O40 := Lib.hid hN; have B40 := Lib.hid (B39.out.trans hb); clear hN hb))
          go_roundw
          case rel => exact ⟨k + 1, false, out ++ [y], vint (by omega), by omega, rfl, by rw [List.length_append]; simp; omega, O40, B40, Lib.hid (fun _ => by
              obtain ⟨h1, h2⟩ := PF.out rfl
              rw [TK.out, h1]
              refine ⟨rfl, fun z hz => ?_⟩
              rcases List.mem_append.1 hz with hz | hz
              · exact h2 z hz
              · simp at hz; subst hz; omega), Lib.hid (fun h => by cases h)⟩
          case measure => simp [intOf]; omega
      · have hgt : x < y := (PT.out rfl).2 y (by rw [DK.out]; exact List.mem_cons_self ..)
        have heq : ¬ y = x := by omega
        go_wp2_with (first
              | ((with_reducible refine bi1 (o := ⟨some 39, _, _, _, _, _⟩) rfl _ rfl y ?_ HY.out ?_); (focus (first | (go_simp; done) | (go_simp; rfl))); intro w39 hs hb hz; have S39 := Lib.hid (hs.ls (Nat.le_refl 1) (by omega) (fun e => by cases e)); have O39 := Lib.hid (O.out.kept hb); have B39 := Lib.hid (B.out.trans (hb.mono B.out.size)); clear hs hb hz)
              | (at_builtin; (with_reducible refine append_ls (o := ⟨some 40, _, _, _, _, _⟩) intOk rfl _ _ rfl w.heap.size _ (out) ?_ O39.out _ 1 1 [y] ?_ S39.out ?_ B39.out.size ?_); (focus (first | (go_simp; done) | (go_simp; rfl))); (focus (first | (go_simp; done) | (go_simp; rfl))); (focus (simp <;> omega)); intro v40 w40 hN hb _ _; have O40 := Lib.hid hN; have B40 := Lib.hid (B39.out.trans hb); clear hN hb))
        go_roundw
        case rel => exact ⟨k + 1, true, out ++ [y], vint (by omega), by omega, rfl, by rw [List.length_append]; simp; omega, O40, B40, Lib.hid (fun h => by cases h), Lib.hid (fun _ => by
            obtain ⟨h1, h2⟩ := PT.out rfl
            rw [DK.out] at h1 h2
            exact ⟨by rw [← h1]; simp, fun z hz => h2 z (List.mem_cons_of_mem _ hz)⟩)⟩
        case measure => simp [intOf]; omega
    · obtain rfl : n = k := by omega
      have HD : L.drop n = [] := List.drop_of_length_le (by rw [HL.out]; exact Nat.le_refl _)
      have HTN : L.take n = L := List.take_of_length_le (by rw [HL.out]; exact Nat.le_refl _)
      cases dn
      · have E := Lib.hid (show out ++ [x] = timedL L x by
          obtain ⟨h1, h2⟩ := PF.out rfl
          rw [HTN] at h1 h2
          have := timedL_skip [] h2
          rw [List.append_nil] at this
          rw [this, h1]; rfl)
        clear HD HTN
        go_wp2_with (first
              | ((with_reducible refine bi1 (o := ⟨some 45, _, _, _, _, _⟩) rfl _ rfl x ?_ HX.out ?_); (focus (first | (go_simp; done) | (go_simp; rfl))); intro w45 hs hb hz; have S45 := Lib.hid (hs.ls (Nat.le_refl 1) (by omega) (fun e => by cases e)); have O45 := Lib.hid (O.out.kept hb); have B45 := Lib.hid (B.out.trans (hb.mono B.out.size)); clear hs hb hz)
              | (at_builtin; (with_reducible refine append_ls (o := ⟨some 46, _, _, _, _, _⟩) intOk rfl _ _ rfl w.heap.size _ (out) ?_ O45.out _ 1 1 [x] ?_ S45.out ?_ B45.out.size ?_); (focus (first | (go_simp; done) | (go_simp; rfl))); (focus (first | (go_simp; done) | (go_simp; rfl))); (focus (simp <;> omega)); intro v46 w46 hN hb _ _; have O46 := Lib.hid hN; have B46 := Lib.hid (B45.out.trans hb); clear hN hb))
        go_ret
        exact ⟨_, rfl, by rw [← E.out]; exact O46.out, B46.out⟩
      · have E := Lib.hid (show out = timedL L x by have h1 := (PT.out rfl).1; rw [HD, List.append_nil] at h1; exact h1)
        clear HD HTN
        go_wp2_with fail
        go_ret
        exact ⟨_, rfl, by rw [← E.out]; exact O.out, B.out⟩
end Go.Proofs.YtkfhppbmnjmnoaaGreatDoor.W

/- LAYER 28 (chunk): the reference's Get, Has. -/
set_option linter.unusedSimpArgs false
set_option linter.unusedVariables false
namespace Go.Proofs.YtkfhppbmnjmnoaaGreatDoor.W
open Go Go.ChangeShapes Go.WideShapes Go.ChangeAt Go.RowKit
open Go.Proofs.YtkfhppbmnjmnoaaGreatDoor.P (shaL shaL_len)

theorem at_find (s : ByteArray) : ∀ (L : List Fi), (findC s L = none ∧ atI s L = -1) ∨ ∃ (k : Nat) (f : Fi), L[k]? = some f ∧ findC s L = some f ∧ f.s = s ∧ atI s L = (k : Int) ∧ k < L.length
  | [] => .inl ⟨rfl, rfl⟩
  | f :: r => by
    by_cases e : f.s = s
    · exact .inr ⟨0, f, rfl, by simp [findC, e], e, by simp [atI, e], by simp⟩
    · rcases at_find s r with ⟨h1, h2⟩ | ⟨k, g, h1, h2, h3, h4, h5⟩
      · exact .inl ⟨by unfold findC at h1 ⊢; rw [List.find?_cons]; simp [e, h1], by unfold atI; rw [if_neg e, if_pos h2]⟩
      · exact .inr ⟨k + 1, g, by simpa using h1, by unfold findC at h2 ⊢; rw [List.find?_cons]; simp [e, h2], h3, by unfold atI; rw [if_neg e, h4, if_neg (by omega)]; omega, by simp; omega⟩
set_option maxRecDepth 100000 in
set_option maxHeartbeats 4000000 in
theorem xcget {w : World} {q n c : Nat} {most : Int} {a : Option Addr} {Y : List FY} {T : Nat → Prop} (s : ByteArray) (h : XK w q most a n c Y T) (hn : n ≤ 524288) :
    Calls Tryz.prog 38 #[.pointer (some ⟨q, 0, none⟩), .string s] w fun e w' => ∃ v, e = .returned (.tuple #[v, .int .i64 (getC (Y.map (·.f)) s).2]) ∧ Fr w' w.heap.size v (getC (Y.map (·.f)) s).1 ∧ Below w.heap.size w w' := by
  have HA := Lib.hid (xcat s h (by omega))
  have H := Lib.hid h
  have HL := Lib.hid h.ls.hlen
  have c0 := h.rp.k2.1
  have SZ := Lib.hid file_size
  unfold getC
  clear h
  rcases at_find s (Y.map (·.f)) with ⟨e1, e2⟩ | ⟨k, f, e0, e1, -, e2, hk⟩
  · rw [e1]
    rw [e2] at HA
    clear e1 e2
    go_enter Tryz.func38, Tryz.ntmps38
    go_wp2_with (go_at_call 70; (with_reducible refine HA.out.mono ?_); rintro e w1 ⟨rfl, rfl⟩)
    go_ret2
    exact ⟨_, rfl, Fr.nil _ _, Below.refl _ _⟩
  · rw [e1]
    rw [e2] at HA
    rw [List.length_map, HL.out] at hk
    obtain ⟨b, off, y, rfl, hy, hc, hf⟩ := H.out.ls.at fiOk (Below.refl _ _) k hk
    obtain rfl : y.f = f := by rw [List.getElem?_map, hy] at e0; exact Option.some.inj e0
    have HIN := Lib.hid (xcintact y w hf)
    have g0 : ¬ (k : Int) < 0 := by omega
    have g1 : (0 : Int) ≤ (k : Int) := by omega
    have g2 : (k : Int) < (n : Int) := by omega
    have d1 := hc 1 (.slice y.ba y.bn y.bc) rfl
    have HCE := Lib.hid (show ∀ j v, y.cells[j]? = some v → w.cell? ⟨b, off + k * 4 + j, none⟩ = some v from hc)
    have BL := Lib.hid (show b < w.heap.size from (H.out.Ta b off none rfl).2.lt)
    have HR := Lib.hid hf.rb
    have HB1 := Lib.hid hf.b1
    dsimp only
    clear e0 e1 e2 hc hf hy d1
    obtain ⟨⟨ys, yb, yu, yt⟩, ba, bn, bc, ta, tn, tc⟩ := y
    dsimp only at HIN HCE HR HB1 ⊢
    by_cases hi : intactC ⟨ys, yb, yu, yt⟩ = true
    · rw [if_pos hi]
      rw [hi] at HIN
      clear hi
      go_enter Tryz.func38, Tryz.ntmps38
      go_wp2_with (first
        | (go_at_call 70; (with_reducible refine HA.out.mono ?_); rintro e w1 ⟨rfl, rfl⟩)
        | ((with_reducible refine load_cells (o := ⟨some 18, _, _, _, _, _⟩) rfl _ _ rfl b (off + k * 4) ?_ (fiC ys (.slice ba bn bc) yu (.slice ta tn tc)) _ HCE.out Tryz.underlying44 ?_ ?_ ?_); (focus go_simp); (focus rfl); (focus (exact SZ.out)))
        | (go_at_call 26; (with_reducible refine HIN.out.mono ?_); rintro e w2 ⟨rfl, hb⟩; have B2 := Lib.hid hb; have c2 := (H.out.mono hb).rp.k2.1; have d2 : w2.cell? ⟨b, off + k * 4 + 1, none⟩ = some (.slice ba bn bc) := (hb.cell (p := ⟨b, off + k * 4 + 1, none⟩) BL.out).trans (HCE.out 1 (.slice ba bn bc) rfl); clear hb c0)
        | (at_builtin; (with_reducible refine append_rd (o := ⟨some 29, _, _, _, _, _⟩) rfl _ _ rfl w2.heap.size (.slice none 0 0) [] ?_ (Fr.nil _ _) ba bn bc yb ?_ (HR.out.mono B2.out) ?_ (Nat.le_refl _) ?_); (focus (first | (go_simp; done) | (go_simp; rfl))); (focus (first | (go_simp; done) | (go_simp; rfl))); (focus (have := HB1.out; simp; omega)); intro v5 w5 hf hb _; have F5 := Lib.hid (show Fr w5 w2.heap.size v5 yb from hf); have B5 := Lib.hid (B2.out.trans (hb.mono B2.out.size)); clear hf hb c2 d2))
      go_ret2
      exact ⟨_, rfl, F5.out.base B2.out.size, B5.out⟩
    · rw [if_neg hi]
      have hi2 : intactC ⟨ys, yb, yu, yt⟩ = false := by simpa using hi
      rw [hi2] at HIN
      clear hi hi2
      go_enter Tryz.func38, Tryz.ntmps38
      go_wp2_with (first
        | (go_at_call 70; (with_reducible refine HA.out.mono ?_); rintro e w1 ⟨rfl, rfl⟩)
        | ((with_reducible refine load_cells (o := ⟨some 18, _, _, _, _, _⟩) rfl _ _ rfl b (off + k * 4) ?_ (fiC ys (.slice ba bn bc) yu (.slice ta tn tc)) _ HCE.out Tryz.underlying44 ?_ ?_ ?_); (focus go_simp); (focus rfl); (focus (exact SZ.out)))
        | (go_at_call 26; (with_reducible refine HIN.out.mono ?_); rintro e w2 ⟨rfl, hb⟩; have B2 := Lib.hid hb; clear hb))
      go_ret2
      exact ⟨_, rfl, Fr.nil _ _, B2.out⟩
set_option maxRecDepth 100000 in
set_option maxHeartbeats 4000000 in
theorem xchas {w : World} {q n c : Nat} {most : Int} {a : Option Addr} {Y : List FY} {T : Nat → Prop} (s : ByteArray) (h : XK w q most a n c Y T) (hn : n ≤ 524288) :
    Calls Tryz.prog 39 #[.pointer (some ⟨q, 0, none⟩), .string s] w fun e w' => e = .returned (.bool (decide ((getC (Y.map (·.f)) s).2 = 0))) ∧ Below w.heap.size w w' := by
  have HG := Lib.hid (xcget s h hn)
  obtain ⟨V, hV⟩ : ∃ V, (getC (Y.map (·.f)) s).2 = V := ⟨_, rfl⟩
  rw [hV] at HG ⊢
  clear h hn hV
  go_enter Tryz.func39, Tryz.ntmps39
  go_wp2_with (go_at_call 38; (with_reducible refine HG.out.mono ?_); rintro e w1 ⟨v, rfl, hf, hb⟩; have F1 := Lib.hid hf; have B1 := Lib.hid hb; clear hf hb)
  go_ret
  exact ⟨one (vbool (by first | rfl | simp)), B1.out⟩
end Go.Proofs.YtkfhppbmnjmnoaaGreatDoor.W

/- LAYER 28 (chunk): the reference's Files, Sync. -/
set_option linter.unusedSimpArgs false
set_option linter.unusedVariables false
namespace Go.Proofs.YtkfhppbmnjmnoaaGreatDoor.W
open Go Go.ChangeShapes Go.WideShapes Go.ChangeAt Go.RowKit
open Go.Proofs.YtkfhppbmnjmnoaaGreatDoor.P (shaL shaL_len)

set_option maxRecDepth 100000 in
set_option maxHeartbeats 4000000 in
theorem xcfiles {w : World} {q n c : Nat} {most : Int} {a : Option Addr} {Y : List FY} {T : Nat → Prop} (h : XK w q most a n c Y T) (hn : n ≤ 524288) :
    Calls Tryz.prog 13 #[.pointer (some ⟨q, 0, none⟩)] w fun e w' => ∃ v Z, e = .returned v ∧ Z.map (·.f) = Y.map (·.f) ∧ LsF w' w.heap.size v Z ∧ Below w.heap.size w w' := by
  have H := Lib.hid h
  have HL := Lib.hid h.ls.hlen
  have SZ := Lib.hid file_size
  clear h
  go_enter Tryz.func13, Tryz.ntmps13
  go_wp2_with fail
  go_loopw [3, 4] (fun v i wr => ∃ (k : Nat) (Z : List FY), i = .int .i64 (k : Int) ∧ k ≤ n ∧ Hid (Z.map (·.f) = (Y.take k).map (·.f)) ∧ Hid (LsF wr w.heap.size v Z) ∧ Hid (Below w.heap.size w wr)) (fun _ i _ => n - (intOf i).toNat)
  case atStart => exact ⟨0, [], rfl, Nat.zero_le _, Lib.hid rfl, Lib.hid (LsF.nil _ _), Lib.hid (Below.refl _ _)⟩
  case round =>
    obtain ⟨k, Z, rfl, hk, HZ, O, B⟩ := hrel
    have c0 := (H.out.mono B.out).rp.k2.1
    by_cases hlt : k < n
    · obtain ⟨b, off, y, rfl, hy, hc, hf⟩ := (H.out.mono B.out).ls.at fiOk (Below.refl _ _) k hlt
      have HCE := Lib.hid (show ∀ j v, y.cells[j]? = some v → wr.cell? ⟨b, off + k * 4 + j, none⟩ = some v from hc)
      have g1 : (0 : Int) ≤ (k : Int) := by omega
      have g2 : (k : Int) < (n : Int) := by omega
      have HTN := Lib.hid (take_fy Y k y hy)
      have HZL := Lib.hid (show Z.length ≤ 524288 by have := congrArg List.length HZ.out; simp at this; omega)
      have HCP := Lib.hid (xccopied y wr hf)
      have MK := Lib.hid (fun (base : Nat) (w3 : World) (bv tv : Value) (h1 : Fr w3 base bv y.f.b) (h2 : LsO intE w3 base tv y.f.t) => fy_made (s := y.f.s) (su := y.f.su) h1 h2 hf.rt.hfit hf.s (by rw [hf.rb.hlen]; exact hf.b1) hf.su (by rw [hf.rt.hlen]; exact hf.t1))
      clear hc hf hy
      obtain ⟨⟨ys, yb, yu, yt⟩, ba, bn, bc, ta, tn, tc⟩ := y
      dsimp only at HCE HCP MK HTN
      go_wp2_with (first
        | ((with_reducible refine load_cells (o := ⟨some 21, _, _, _, _, _⟩) rfl _ _ rfl b (off + k * 4) ?_ (fiC ys (.slice ba bn bc) yu (.slice ta tn tc)) _ HCE.out Tryz.underlying44 ?_ ?_ ?_); (focus go_simp); (focus rfl); (focus (exact SZ.out)))
        | (go_at_call 49; (with_reducible refine HCP.out.mono ?_); rintro e w3 ⟨a', tv', rfl, hf, ht, hb⟩; obtain ⟨z, hz, hzr, hzc, -, -⟩ := MK.out _ _ _ _ hf ht; rw [hzc]; have Z3 := Lib.hid hzr; have HZF := Lib.hid hz; have B3 := Lib.hid (B.out.trans (hb.mono B.out.size)); have O3 := Lib.hid (O.out.kept hb); clear hf ht hb hz hzr hzc c0)
        | ((with_reducible refine build_ls fiOk fi_fill (o := ⟨some 23, _, _, _, _, _⟩) rfl _ rfl z ?_ Z3.out (by decide) ?_); (focus (first | (go_simp; done) | (go_simp; rfl))); intro w4 hl hb hz; have L4 := Lib.hid hl; have B4 := Lib.hid (B3.out.trans (hb.mono B3.out.size)); have O4 := Lib.hid (O3.out.kept hb); clear hl hb hz)
        | (at_builtin; (with_reducible refine append_fi (o := ⟨some 24, _, _, _, _, _⟩) rfl _ _ rfl w.heap.size _ Z ?_ O4.out (some ⟨w3.heap.size, 0, none⟩) 1 1 [z] ?_ L4.out (by have := HZL.out; omega) B4.out.size ?_); (focus (first | (go_simp; done) | (go_simp; rfl))); (focus (first | (go_simp; done) | (go_simp; rfl))); intro v5 w5 hN hb2 hg2 hv2; have O5 := Lib.hid hN; have B5 := Lib.hid (B4.out.trans hb2); clear hN hb2 hg2 hv2))
      go_roundw
      case rel => exact ⟨k + 1, Z ++ [z], vint (by omega), by omega, Lib.hid (by rw [List.map_append, HZ.out, HTN.out, List.map_cons, List.map_nil, HZF.out]), O5, B5⟩
      case measure => simp [intOf]; omega
    · obtain rfl : n = k := by omega
      go_wp2_with fail
      go_ret
      exact ⟨_, rfl, Z, by rw [HZ.out, List.take_of_length_le (by rw [HL.out]; exact Nat.le_refl _)], O.out, B.out⟩
theorem XK.relist {w w' : World} {q n c base : Nat} {most : Int} {a : Option Addr} {Y Z : List FY} {T : Nat → Prop} {v : Value} (h : XK w q most a n c Y T) (hl : LsF w base v Z) (hu : Upd w w' q) (hr : Row w' q 68 [v, .int .i64 most]) (T' : Nat → Prop) (hT : ∀ k, T k → T' k) (hlt : ∀ k, T' k → k < w.heap.size)
    (hv : ∀ g, v.ownBlock = some g → T' g) (hb : ∀ y ∈ Z, ∀ b off s, y.ba = some ⟨b, off, s⟩ → T' b) (ht : ∀ y ∈ Z, ∀ b off s, y.ta = some ⟨b, off, s⟩ → T' b) :
    ∃ a' c', v = .slice a' Z.length c' ∧ XK w' q most a' Z.length c' Z T' := by
  have hl' := hl.upd h.rp (fun e => IsTy.ne (lso_ty hl.own e) h.rp.ty (by decide) rfl) (by decide) (by decide) hu
  obtain ⟨a', c', rfl, hls, -⟩ := hl'.own.ls fiOk hl'.fit
  refine ⟨a', c', rfl, { rp := hr, ls := hls, Tq := hT q h.Tq, Ta := ?_, Tb := hb, Tt := ht, lt := fun k hk => by rw [hu.size]; exact hlt k hk }⟩
  rintro b off s rfl
  exact ⟨hv b rfl, lso_ty hl'.own rfl⟩
theorem size_fis : (Tryz.prog.info? 38).map (·.size) = some 1 := by kernel_rfl
def syY (y : FY) : FY := ⟨⟨y.f.s, y.f.b, y.f.b.length, y.f.t⟩, y.ba, y.bn, y.bc, y.ta, y.tn, y.tc⟩
theorem syY_r {w : World} {y : FY} (h : FYr w y) : FYr w (syY y) := { h with su := by show y.f.b.length ≤ 1000000; rw [h.rb.hlen]; exact h.b1 }
theorem syY_f (Y : List FY) : (Y.map syY).map (·.f) = syncC (Y.map (·.f)) := by unfold syncC; rw [List.map_map, List.map_map]; rfl
set_option maxRecDepth 100000 in
set_option maxHeartbeats 4000000 in
theorem xcsync {w : World} {q n c : Nat} {most : Int} {a : Option Addr} {Y : List FY} {T : Nat → Prop} (h : XK w q most a n c Y T) (hn : n ≤ 524288) :
    Calls Tryz.prog 40 #[.pointer (some ⟨q, 0, none⟩)] w fun e w' => e = .returned (.int .i64 (looseC (Y.map (·.f)) : Nat)) ∧ ∃ a' c', XK w' q most a' n c' (Y.map syY) (fun k => T k ∨ (w.heap.size ≤ k ∧ k < w'.heap.size)) ∧ Ft (fun k => k = q) w w' := by
  have HLO := Lib.hid (xcloose h hn)
  have H := Lib.hid h
  have HL := Lib.hid h.ls.hlen
  have SZ := Lib.hid file_size
  have FZ := Lib.hid file_zero
  have HTA := Lib.hid (show ∀ y ∈ Y, (∀ b off s, y.ba = some ⟨b, off, s⟩ → T b) ∧ (∀ b off s, y.ta = some ⟨b, off, s⟩ → T b) from fun y hy => ⟨h.Tb y hy, h.Tt y hy⟩)
  obtain ⟨lo, hlo⟩ : ∃ lo : Nat, looseC (Y.map (·.f)) = lo := ⟨_, rfl⟩
  rw [hlo] at HLO ⊢
  clear h hlo
  go_enter Tryz.func40, Tryz.ntmps40
  go_wp2_with (go_at_call 17; (with_reducible refine HLO.out.mono ?_); rintro e w1 ⟨rfl, hb⟩; have B1 := Lib.hid hb; clear hb)
  go_loopw [4, 5, 6] (fun v i _ wr => ∃ (k : Nat), i = .int .i64 (k : Int) ∧ k ≤ n ∧ Hid (LsF wr w.heap.size v ((Y.take k).map syY)) ∧ Hid (Below w.heap.size w wr)) (fun _ i _ _ => n - (intOf i).toNat)
  case atStart => exact ⟨0, rfl, Nat.zero_le _, Lib.hid (LsF.nil _ _), B1⟩
  case round =>
    obtain ⟨k, rfl, hk, O, B⟩ := hrel
    have c0 := (H.out.mono B.out).rp.k2.1
    by_cases hlt : k < n
    · obtain ⟨b, off, y, rfl, hy, hc, hf⟩ := (H.out.mono B.out).ls.at fiOk (Below.refl _ _) k hlt
      have HCE := Lib.hid (show ∀ j v, y.cells[j]? = some v → wr.cell? ⟨b, off + k * 4 + j, none⟩ = some v from hc)
      have g1 : (0 : Int) ≤ (k : Int) := by omega
      have g2 : (k : Int) < (n : Int) := by omega
      have HTN := Lib.hid (take_next Y syY k y hy)
      have HZL := Lib.hid (show ((Y.take k).map syY).length ≤ 524288 by simp; omega)
      have HF := Lib.hid (syY_r hf)
      have HBN := Lib.hid hf.rb.hlen
      have OC : ∀ v ∈ y.cells, v.oneCell' = true := fiOk.one y
      have OCC := Lib.hid OC
      clear hc hf hy OC
      obtain ⟨⟨ys, yb, yu, yt⟩, ba, bn, bc, ta, tn, tc⟩ := y
      dsimp only at HBN
      replace HCE : Hid (∀ j v, (fiC ys (.slice ba bn bc) yu (.slice ta tn tc))[j]? = some v → wr.cell? ⟨b, off + k * 4 + j, none⟩ = some v) := HCE
      replace OCC : Hid (∀ v ∈ fiC ys (.slice ba bn bc) yu (.slice ta tn tc), v.oneCell' = true) := OCC
      go_wp2_with (first
        | ((with_reducible refine load_cells (o := ⟨some 24, _, _, _, _, _⟩) rfl _ _ rfl b (off + k * 4) ?_ (fiC ys (.slice ba bn bc) yu (.slice ta tn tc)) _ HCE.out Tryz.underlying44 ?_ ?_ ?_); (focus go_simp); (focus rfl); (focus (exact SZ.out)))
        | ((with_reducible refine alloc_row (o := ⟨some 6, _, _, _, _, _⟩) rfl _ rfl _ FZ.out ?_); intro w2 hr hb hz; have D2 := Lib.hid hb; have R2 := Lib.hid hr; have B2 := Lib.hid (B.out.trans (hb.mono B.out.size)); have O2 := Lib.hid (O.out.kept hb); clear hr hb hz)
        | ((with_reducible refine store_row (o := ⟨none, _, _, _, _, _⟩) rfl _ (.tmp 6) _ rfl wr.heap.size (fiC ys (.slice ba bn bc) yu (.slice ta tn tc)) ?_ ?_ 44 _ R2.out ?_ ?_ ?_ ?_); (focus go_simp); (focus (first | (go_simp; done) | (go_simp; rfl))); (focus (exact SZ.out)); (focus rfl); (focus (exact OCC.out)); intro w3 hr hu; have D3 := Lib.hid (D2.out.trans (hu.below (Nat.le_refl _))); have R3 := Lib.hid hr; have B3 := Lib.hid (B2.out.trans (hu.below B.out.size)); have O3 := Lib.hid (O2.out.upd R2.out (fun e => absurd (O.out.own.blt e) (Nat.lt_irrefl _)) (by decide) (by decide) hu); have q1 := hr.k4.2.1; clear hr hu)
        | ((with_reducible refine store_cell (o := ⟨none, _, _, _, _, _⟩) rfl _ (.tmp 28) _ rfl wr.heap.size 2 (.int .i64 (bn : Int)) ?_ ?_ rfl rfl 44 _ R3.out size_int ?_ ?_); (focus go_simp); (focus (first | (go_simp; done) | (go_simp; rfl))); (focus (show 2 < 4; decide)); intro w4 hr hu; have D4 := Lib.hid (D3.out.trans (hu.below (Nat.le_refl _))); have R4 := Lib.hid (show Row w4 wr.heap.size 44 (fiC ys (.slice ba bn bc) bn (.slice ta tn tc)) from hr); have B4 := Lib.hid (B3.out.trans (hu.below B.out.size)); have O4 := Lib.hid (O3.out.upd R3.out (fun e => absurd (O.out.own.blt e) (Nat.lt_irrefl _)) (by decide) (by decide) hu); clear hr hu q1)
        | ((with_reducible refine load_row (o := ⟨some 30, _, _, _, _, _⟩) rfl _ _ rfl wr.heap.size ?_ _ (fiC ys (.slice ba bn bc) bn (.slice ta tn tc)) _ R4.out Tryz.underlying44 rfl ?_ ?_); (focus go_simp); (focus (exact SZ.out)))
        | ((with_reducible refine build_ls fiOk fi_fill (o := ⟨some 31, _, _, _, _, _⟩) rfl _ rfl (syY ⟨⟨ys, yb, yu, yt⟩, ba, bn, bc, ta, tn, tc⟩) ?_ (HF.out.mono D4.out) (by decide) ?_); (focus (first | (go_simp; done) | (go_simp; rfl) | (show _ = Value.agg (fiC ys (.slice ba bn bc) yb.length (.slice ta tn tc)).toArray; rw [HBN.out]; go_simp; first | done | rfl))); intro w5 hl hb hz; have L5 := Lib.hid hl; have B5 := Lib.hid (B4.out.trans (hb.mono B4.out.size)); have O5 := Lib.hid (O4.out.kept hb); clear hl hb hz)
        | (at_builtin; (with_reducible refine append_fi (o := ⟨some 32, _, _, _, _, _⟩) rfl _ _ rfl w.heap.size _ ((Y.take k).map syY) ?_ O5.out (some ⟨w4.heap.size, 0, none⟩) 1 1 [syY ⟨⟨ys, yb, yu, yt⟩, ba, bn, bc, ta, tn, tc⟩] ?_ L5.out (by have := HZL.out; omega) B5.out.size ?_); (focus (first | (go_simp; done) | (go_simp; rfl))); (focus (first | (go_simp; done) | (go_simp; rfl))); intro v6 w6 hN hb2 hg2 hv2; have O6 := Lib.hid hN; have B6 := Lib.hid (B5.out.trans hb2); clear hN hb2 hg2 hv2))
      go_roundw
      case rel => exact ⟨k + 1, vint (by omega), by omega, Lib.hid (by rw [HTN.out]; exact O6.out), B6⟩
      case measure => simp [intOf]; omega
    · obtain rfl : n = k := by omega
      have OV := Lib.hid (lso_cells O.out.own)
      have OW := Lib.hid (lso_cell O.out.own)
      have RQ := Lib.hid (H.out.mono B.out).rp
      go_wp2_with ((with_reducible refine store_cell (o := ⟨none, _, _, _, _, _⟩) rfl _ (.tmp 36) _ rfl q 0 _ ?_ ?_ OV.out OW.out 68 _ RQ.out size_fis ?_ ?_); (focus go_simp); (focus (first | (go_simp; done) | (go_simp; rfl))); (focus (show 0 < 2; decide)); intro w7 hr hu; have R7 := Lib.hid hr; have U7 := Lib.hid hu; clear hr hu)
      go_ret
      have E := H.out.mono B.out
      have hT := HTA.out
      obtain ⟨a', c', -, X7⟩ := E.relist O.out U7.out R7.out (fun k => T k ∨ (w.heap.size ≤ k ∧ k < wr.heap.size)) (fun k h => .inl h) (fun k h => h.elim (E.lt k) (·.2)) (fun g e => .inr ⟨(World.ownsRow.lt O.out.own g e).1, O.out.own.blt e⟩)
        (fun z hz b off s e => by obtain ⟨y, hy, rfl⟩ := List.mem_map.1 hz; exact .inl (hT y (List.mem_of_mem_take hy) |>.1 b off s e)) (fun z hz b off s e => by obtain ⟨y, hy, rfl⟩ := List.mem_map.1 hz; exact .inl (hT y (List.mem_of_mem_take hy) |>.2 b off s e))
      have e1 : (Y.take n).map syY = Y.map syY := by rw [List.take_of_length_le (by rw [HL.out]; exact Nat.le_refl _)]
      rw [e1, List.length_map, HL.out] at X7
      refine ⟨rfl, a', c', ?_, (Ft.of_below B.out).on (Ft.of_upd (F := fun k => k = q) U7.out rfl) (fun b hb => .inl hb)⟩
      rw [show w7.heap.size = wr.heap.size from U7.out.size]
      exact X7
end Go.Proofs.YtkfhppbmnjmnoaaGreatDoor.W

/- LAYER 28 (chunk): the reference's has, hasTime, old, Scrub, Sweep. -/
set_option linter.unusedSimpArgs false
set_option linter.unusedVariables false
namespace Go.Proofs.YtkfhppbmnjmnoaaGreatDoor.W
open Go Go.ChangeShapes Go.WideShapes Go.ChangeAt Go.RowKit
open Go.Proofs.YtkfhppbmnjmnoaaGreatDoor.P (shaL shaL_len)

theorem any_drop {α : Type} (p : α → Bool) {L : List α} {k : Nat} {x : α} (h : L[k]? = some x) : (L.drop k).any p = (p x || (L.drop (k + 1)).any p) := by
  obtain ⟨h1, h2⟩ := List.getElem?_eq_some_iff.1 h
  rw [List.drop_eq_getElem_cons h1, h2]; rfl
theorem all_drop {α : Type} (p : α → Bool) {L : List α} {k : Nat} {x : α} (h : L[k]? = some x) : (L.drop k).all p = (p x && (L.drop (k + 1)).all p) := by
  obtain ⟨h1, h2⟩ := List.getElem?_eq_some_iff.1 h
  rw [List.drop_eq_getElem_cons h1, h2]; rfl
theorem filter_take {α : Type} (p : α → Bool) {L : List α} {k : Nat} {x : α} (h : L[k]? = some x) : (L.take (k + 1)).filter p = (L.take k).filter p ++ (if p x = true then [x] else []) := by
  obtain ⟨h1, h2⟩ := List.getElem?_eq_some_iff.1 h
  rw [List.take_succ_eq_append_getElem h1, h2, List.filter_append, List.filter_cons, List.filter_nil]
set_option maxRecDepth 100000 in
set_option maxHeartbeats 4000000 in
theorem xchass (a : Option Addr) (n c : Nat) (L : List ByteArray) (s : ByteArray) (w : World) (h : Ls strE w a n c L) (hn : n ≤ 1000000) :
    Calls Tryz.prog 74 #[.slice a n c, .string s] w fun e w' => e = .returned (.bool (L.any fun z => decide (z = s))) ∧ w = w' := by
  have H := Lib.hid h
  have HL := Lib.hid h.hlen
  clear h
  go_enter Tryz.func74, Tryz.ntmps74
  go_wp2_with fail
  go_loopw [5] (fun i wr => ∃ k : Nat, i = .int .i64 (k : Int) ∧ k ≤ n ∧ Hid ((L.any fun z => decide (z = s)) = (L.drop k).any fun z => decide (z = s)) ∧ Hid (w = wr)) (fun i _ => n - (intOf i).toNat)
  case atStart => exact ⟨0, rfl, Nat.zero_le _, Lib.hid rfl, Lib.hid rfl⟩
  case round =>
    obtain ⟨k, rfl, hk, N, hw⟩ := hrel
    obtain rfl := hw.out
    by_cases hlt : k < n
    · obtain ⟨b, off, y, rfl, hy, hc, -⟩ := H.out.at strOk (Below.refl _ _) k hlt
      have d0 : w.cell? ⟨b, off + k, none⟩ = some (.string y) := by have := hc 0 (.string y) rfl; rw [show off + k * strE.k + 0 = off + k by show off + k * 1 + 0 = off + k; omega] at this; exact this
      have g1 : (0 : Int) ≤ (k : Int) := by omega
      have g2 : (k : Int) < (n : Int) := by omega
      have HD := Lib.hid (any_drop (fun z => decide (z = s)) hy)
      clear hc hy
      by_cases he : y = s
      · have g3 : (y.toList == s.toList) = true := by rw [eqM_dec]; simpa using he
        have HE := Lib.hid (show (L.any fun z => decide (z = s)) = true by rw [N.out, HD.out]; simp [he])
        clear he
        go_wp2_with fail
        go_ret
        exact ⟨one (vbool (by rw [HE.out])), rfl⟩
      · have g3 : (y.toList == s.toList) = false := by rw [eqM_dec]; simpa using he
        have HE := Lib.hid (show (L.any fun z => decide (z = s)) = (L.drop (k + 1)).any fun z => decide (z = s) by rw [N.out, HD.out]; simp [he])
        clear he
        go_wp2_with fail
        go_roundw
        case rel => exact ⟨k + 1, vint (by omega), by omega, HE, Lib.hid trivial⟩
        case measure => simp [intOf]; omega
    · obtain rfl : n = k := by omega
      have e1 := Lib.hid (show (L.any fun z => decide (z = s)) = false by rw [N.out, List.drop_of_length_le (by rw [HL.out]; exact Nat.le_refl _)]; rfl)
      go_wp2_with fail
      go_ret
      exact ⟨one (vbool (by rw [e1.out])), rfl⟩
set_option maxRecDepth 100000 in
set_option maxHeartbeats 4000000 in
theorem xchast (a : Option Addr) (n c : Nat) (L : List Int) (x : Int) (w : World) (h : Ls intE w a n c L) (hn : n ≤ 1000000) :
    Calls Tryz.prog 90 #[.slice a n c, .int .i64 x] w fun e w' => e = .returned (.bool (decide (x ∈ L))) ∧ w = w' := by
  have H := Lib.hid h
  have HL := Lib.hid h.hlen
  rw [show decide (x ∈ L) = (L.any fun z => decide (z = x)) by rw [Bool.eq_iff_iff]; simp]
  clear h
  go_enter Tryz.func90, Tryz.ntmps90
  go_wp2_with fail
  go_loopw [5] (fun i wr => ∃ k : Nat, i = .int .i64 (k : Int) ∧ k ≤ n ∧ Hid ((L.any fun z => decide (z = x)) = (L.drop k).any fun z => decide (z = x)) ∧ Hid (w = wr)) (fun i _ => n - (intOf i).toNat)
  case atStart => exact ⟨0, rfl, Nat.zero_le _, Lib.hid rfl, Lib.hid rfl⟩
  case round =>
    obtain ⟨k, rfl, hk, N, hw⟩ := hrel
    obtain rfl := hw.out
    by_cases hlt : k < n
    · obtain ⟨b, off, y, rfl, hy, hc, -⟩ := H.out.at intOk (Below.refl _ _) k hlt
      have d0 : w.cell? ⟨b, off + k, none⟩ = some (.int .i64 y) := by have := hc 0 (.int .i64 y) rfl; rw [show off + k * intE.k + 0 = off + k by show off + k * 1 + 0 = off + k; omega] at this; exact this
      have g1 : (0 : Int) ≤ (k : Int) := by omega
      have g2 : (k : Int) < (n : Int) := by omega
      have HD := Lib.hid (any_drop (fun z => decide (z = x)) hy)
      clear hc hy
      by_cases he : y = x
      · have g3 : (y == x) = true := by simpa using he
        have HE := Lib.hid (show (L.any fun z => decide (z = x)) = true by rw [N.out, HD.out]; simp [he])
        clear he
        go_wp2_with fail
        go_ret
        exact ⟨one (vbool (by rw [HE.out])), rfl⟩
      · have g3 : (y == x) = false := by simpa using he
        have HE := Lib.hid (show (L.any fun z => decide (z = x)) = (L.drop (k + 1)).any fun z => decide (z = x) by rw [N.out, HD.out]; simp [he])
        clear he
        go_wp2_with fail
        go_roundw
        case rel => exact ⟨k + 1, vint (by omega), by omega, HE, Lib.hid trivial⟩
        case measure => simp [intOf]; omega
    · obtain rfl : n = k := by omega
      have e1 := Lib.hid (show (L.any fun z => decide (z = x)) = false by rw [N.out, List.drop_of_length_le (by rw [HL.out]; exact Nat.le_refl _)]; rfl)
      go_wp2_with fail
      go_ret
      exact ⟨one (vbool (by rw [e1.out])), rfl⟩
set_option maxRecDepth 100000 in
set_option maxHeartbeats 4000000 in
theorem xcold (y : FY) (time : Int) (la : Option Addr) (ln lc : Nat) (live : List Int) (w : World) (h : FYr w y) (hl : Ls intE w la ln lc live) (hn : ln ≤ 1000000) :
    Calls Tryz.prog 75 #[.agg y.cells.toArray, .int .i64 time, .slice la ln lc] w fun e w' => e = .returned (.bool (oldC time live y.f)) ∧ Below w.heap.size w w' := by
  have HT := Lib.hid h.rt
  have H1 := Lib.hid h.t1
  have HV := Lib.hid (fun w' (hb : Below w.heap.size w w') x => xchast la ln lc live x w' (hl.mono intOk hb) hn)
  obtain ⟨⟨s, b, su, t⟩, ba, bn, bc, ta, tn, tc⟩ := y
  show Calls Tryz.prog 75 #[.agg (fiC s (.slice ba bn bc) su (.slice ta tn tc)).toArray, .int .i64 time, .slice la ln lc] w fun e w' => e = .returned (.bool (t.all fun t => !(decide (time ≤ t) || decide (t ∈ live)))) ∧ Below w.heap.size w w'
  dsimp only at HT H1
  have HL := Lib.hid HT.out.hlen
  have h1 := H1.out
  obtain ⟨p, hp⟩ : ∃ p : Int → Bool, (fun t => !(decide (time ≤ t) || decide (t ∈ live))) = p := ⟨_, rfl⟩
  have HP := Lib.hid (fun y => congrFun hp y)
  rw [hp]
  clear h hl hp
  go_enter Tryz.func75, Tryz.ntmps75
  go_wp2_with ((with_reducible refine box_row (o := ⟨some 3, _, _, _, _, _⟩) rfl _ _ rfl (fiC s (.slice ba bn bc) su (.slice ta tn tc)) rfl ?_); intro w1 hr hb hz; have R1 := Lib.hid hr; have B1 := Lib.hid hb; have q3 := hr.k4.2.2.2; clear hr hb hz)
  go_loopw [7] (fun i wr => ∃ k : Nat, i = .int .i64 (k : Int) ∧ k ≤ tn ∧ Hid (t.all p = (t.drop k).all p) ∧ Hid (w1 = wr)) (fun i _ => tn - (intOf i).toNat)
  case atStart => exact ⟨0, rfl, Nat.zero_le _, Lib.hid rfl, Lib.hid rfl⟩
  case round =>
    obtain ⟨k, rfl, hk, N, hw⟩ := hrel
    obtain rfl := hw.out
    by_cases hlt : k < tn
    · obtain ⟨tb, to, y, rfl, hy, hc, -⟩ := (HT.out.mono intOk B1.out).at intOk (Below.refl _ _) k hlt
      have d0 : w1.cell? ⟨tb, to + k, none⟩ = some (.int .i64 y) := by have := hc 0 (.int .i64 y) rfl; rw [show to + k * intE.k + 0 = to + k by show to + k * 1 + 0 = to + k; omega] at this; exact this
      have g1 : (0 : Int) ≤ (k : Int) := by omega
      have g2 : (k : Int) < (tn : Int) := by omega
      have HD := Lib.hid (all_drop p hy)
      clear hc hy
      by_cases hge : time ≤ y
      · have HE := Lib.hid (show t.all p = false by rw [N.out, HD.out, ← HP.out y]; simp [hge])
        go_wp2_with fail
        go_ret
        exact ⟨one (vbool (by rw [HE.out])), B1.out⟩
      · by_cases hm : y ∈ live
        · have HE := Lib.hid (show t.all p = false by rw [N.out, HD.out, ← HP.out y]; simp [hm])
          have HC := Lib.hid (HV.out w1 B1.out y)
          rw [decide_eq_true hm] at HC
          go_wp2_with (go_at_call 90; (with_reducible refine HC.out.mono ?_); rintro e w2 ⟨rfl, rfl⟩)
          go_ret
          exact ⟨one (vbool (by rw [HE.out])), B1.out⟩
        · have HE := Lib.hid (show t.all p = (t.drop (k + 1)).all p by rw [N.out, HD.out, ← HP.out y]; simp [hm, hge])
          have HC := Lib.hid (HV.out w1 B1.out y)
          rw [decide_eq_false hm] at HC
          clear hm
          go_wp2_with (go_at_call 90; (with_reducible refine HC.out.mono ?_); rintro e w2 ⟨rfl, rfl⟩)
          go_roundw
          case rel => exact ⟨k + 1, vint (by omega), by omega, HE, Lib.hid trivial⟩
          case measure => simp [intOf]; omega
    · obtain rfl : tn = k := by omega
      have e1 := Lib.hid (show t.all p = true by rw [N.out, List.drop_of_length_le (by rw [HL.out]; exact Nat.le_refl _)]; rfl)
      go_wp2_with fail
      go_ret
      exact ⟨one (vbool (by rw [e1.out])), B1.out⟩
end Go.Proofs.YtkfhppbmnjmnoaaGreatDoor.W

/- LAYER 28 (chunk): the reference's Scrub, Sweep. -/
set_option linter.unusedSimpArgs false
set_option linter.unusedVariables false
namespace Go.Proofs.YtkfhppbmnjmnoaaGreatDoor.W
open Go Go.ChangeShapes Go.WideShapes Go.ChangeAt Go.RowKit
open Go.Proofs.YtkfhppbmnjmnoaaGreatDoor.P (shaL shaL_len)

theorem filt_len {α : Type} (G : α → Bool) : ∀ L : List α, (L.filter fun y => !G y).length + (L.filter G).length = L.length
  | [] => rfl
  | x :: r => by
    have := filt_len G r
    rw [List.filter_cons, List.filter_cons, List.length_cons]
    cases G x <;> simp <;> omega
/-- a list of files stays where strings are appended to their own list, and the other way round -/
theorem LsF.grownS {w w' : World} {b1 b2 : Nat} {v u : Value} {Y : List FY} {L : List ByteArray} (h : LsF w b1 v Y) (ho : LsO strE w b2 u L) (hg : w.grownBy w' u.ownBlock) : LsF w' b1 v Y :=
  ⟨h.own.keep fun g e => hg.block g (h.own.blt e) (fun e2 => IsTy.ne (lso_ty h.own e) (lso_ty ho e2.symm) (by decide) rfl), fun y hy => (h.fit y hy).stay hg.size fun k hk => hg.block k (hk.elim IsTy.lt IsTy.lt) (fun e => hk.elim (fun z => z.ne (lso_ty ho e.symm) (by decide) rfl) (fun z => z.ne (lso_ty ho e.symm) (by decide) rfl))⟩
theorem LsO.grownF {w w' : World} {b1 b2 : Nat} {v u : Value} {Y : List FY} {L : List ByteArray} (h : LsO strE w b2 u L) (ho : LsO fiE w b1 v Y) (hg : w.grownBy w' v.ownBlock) : LsO strE w' b2 u L :=
  h.keep fun g e => hg.block g (h.blt e) (fun e2 => IsTy.ne (lso_ty h e) (lso_ty ho e2.symm) (by decide) rfl)
set_option maxRecDepth 100000 in
set_option maxHeartbeats 8000000 in
theorem xcscrub {w : World} {q n c : Nat} {most : Int} {a : Option Addr} {Y : List FY} {T : Nat → Prop} (h : XK w q most a n c Y T) (hn : n ≤ 524288) :
    Calls Tryz.prog 45 #[.pointer (some ⟨q, 0, none⟩)] w fun e w' => ∃ v, e = .returned v ∧ LsO strE w' w.heap.size v ((Y.filter fun y => !intactC y.f).map (·.f.s)) ∧ ∃ a' c', XK w' q most a' (Y.filter fun y => intactC y.f).length c' (Y.filter fun y => intactC y.f) (fun k => T k ∨ (w.heap.size ≤ k ∧ k < w'.heap.size)) ∧ Ft (fun k => k = q) w w' := by
  have H := Lib.hid h
  have HL := Lib.hid h.ls.hlen
  have SZ := Lib.hid file_size
  have HTA := Lib.hid (show ∀ y ∈ Y, (∀ b off s, y.ba = some ⟨b, off, s⟩ → T b) ∧ (∀ b off s, y.ta = some ⟨b, off, s⟩ → T b) from fun y hy => ⟨h.Tb y hy, h.Tt y hy⟩)
  have HFS := Lib.hid (show ∀ y ∈ Y, y.f.s.size ≤ maxLen from fun y hy => by have := (h.ls.hfit y hy).s; unfold maxLen; omega)
  clear h
  go_enter Tryz.func45, Tryz.ntmps45
  go_wp2_with fail
  go_loopw [3, 4, 5] (fun v u i wr => ∃ (k : Nat), i = .int .i64 (k : Int) ∧ k ≤ n ∧ Hid (LsF wr w.heap.size v ((Y.take k).filter fun y => intactC y.f)) ∧ Hid (LsO strE wr w.heap.size u (((Y.take k).filter fun y => !intactC y.f).map (·.f.s))) ∧ Hid (Below w.heap.size w wr) ∧ Hid (v.ownBlock ≠ some w.heap.size ∨ True)) (fun _ _ i _ => n - (intOf i).toNat)
  case atStart => exact ⟨0, rfl, Nat.zero_le _, Lib.hid (LsF.nil _ _), Lib.hid (LsO.nil _ _), Lib.hid (Below.refl _ _), Lib.hid (.inr trivial)⟩
  case round =>
    obtain ⟨k, rfl, hk, O, M, B, -⟩ := hrel
    have c0 := (H.out.mono B.out).rp.k2.1
    by_cases hlt : k < n
    · obtain ⟨b, off, y, rfl, hy, hc, hf⟩ := (H.out.mono B.out).ls.at fiOk (Below.refl _ _) k hlt
      have HCE := Lib.hid (show ∀ j v, y.cells[j]? = some v → wr.cell? ⟨b, off + k * 4 + j, none⟩ = some v from hc)
      have BL := Lib.hid (show b < wr.heap.size from ((H.out.mono B.out).Ta b off none rfl).2.lt)
      have g1 : (0 : Int) ≤ (k : Int) := by omega
      have g2 : (k : Int) < (n : Int) := by omega
      have HF := Lib.hid hf
      have HT1 := Lib.hid (filter_take (fun y : FY => intactC y.f) hy)
      have HT2 := Lib.hid (filter_take (fun y : FY => !intactC y.f) hy)
      have HZL := Lib.hid (show ((Y.take k).filter fun y => intactC y.f).length ≤ 524288 by have h1 := List.length_filter_le (fun y : FY => intactC y.f) (Y.take k); rw [List.length_take] at h1; omega)
      have HZM := Lib.hid (show (((Y.take k).filter fun y => !intactC y.f).map (·.f.s)).length ≤ 524288 by have h1 := List.length_filter_le (fun y : FY => !intactC y.f) (Y.take k); rw [List.length_take] at h1; rw [List.length_map]; omega)
      have HIN := Lib.hid (xcintact y wr hf)
      have HSS := Lib.hid (HFS.out y (List.mem_of_getElem? hy))
      have XR := Lib.hid (H.out.mono B.out)
      clear hc hf hy
      cases hi : intactC y.f
      · rw [hi] at HT1 HT2 HIN
        simp only [Bool.not_false, if_true, if_false, Bool.false_eq_true] at HT1 HT2
        clear hi
        obtain ⟨⟨ys, yb, yu, yt⟩, ba, bn, bc, ta, tn, tc⟩ := y
        try dsimp only at HSS HT2 HIN
        replace HCE : Hid (∀ j v, (fiC ys (.slice ba bn bc) yu (.slice ta tn tc))[j]? = some v → wr.cell? ⟨b, off + k * 4 + j, none⟩ = some v) := HCE
        go_wp2_with (first
    | ((with_reducible refine load_cells (o := ⟨some 21, _, _, _, _, _⟩) rfl _ _ rfl b (off + k * 4) ?_ (fiC ys (.slice ba bn bc) yu (.slice ta tn tc)) _ HCE.out Tryz.underlying44 ?_ ?_ ?_); (focus go_simp); (focus rfl); (focus (exact SZ.out)))
    | (go_at_call 26; (with_reducible refine HIN.out.mono ?_); rintro e w3 ⟨rfl, hb⟩; have B3 := Lib.hid (B.out.trans (hb.mono B.out.size)); have O3 := Lib.hid (O.out.kept hb); have M3 := Lib.hid (M.out.kept hb); have c3 := (XR.out.mono hb).rp.k2.1; have d3 : w3.cell? ⟨b, off + k * 4, none⟩ = some (.string ys) := (hb.cell (p := ⟨b, off + k * 4, none⟩) BL.out).trans (HCE.out 0 (.string ys) rfl); clear hb c0)
    | ((with_reducible refine build_str (o := ⟨some 42, _, _, _, _, _⟩) rfl _ rfl ys ?_ HSS.out ?_); (focus (first | (go_simp; done) | (go_simp; rfl))); intro w5 hl hb; have L5 := Lib.hid hl; have M5 := Lib.hid (M3.out.kept hb); have O5 := Lib.hid (O3.out.kept hb); have B5 := Lib.hid (B3.out.trans (hb.mono B3.out.size)); clear hl hb)
    | (at_builtin; (with_reducible refine append_ls strOk (o := ⟨some 43, _, _, _, _, _⟩) rfl _ _ rfl w.heap.size _ (((Y.take k).filter fun y => !intactC y.f).map (·.f.s)) ?_ M5.out (some ⟨w3.heap.size, 0, none⟩) 1 1 [ys] ?_ L5.out (by have := HZM.out; omega) B5.out.size ?_); (focus (first | (go_simp; done) | (go_simp; rfl))); (focus (first | (go_simp; done) | (go_simp; rfl))); intro v6 w6 hN hb2 hg2 hv2; have M6 := Lib.hid hN; have B6 := Lib.hid (B5.out.trans hb2); have O6 := Lib.hid (O5.out.grownS M5.out hg2); clear hN hb2 hg2 hv2))
        go_roundw
        case rel => exact ⟨k + 1, vint (by omega), by omega, Lib.hid (by rw [HT1.out, List.append_nil]; exact O6.out), Lib.hid (by rw [HT2.out, List.map_append]; exact M6.out), B6, Lib.hid (.inr trivial)⟩
        case measure => simp [intOf]; omega
      · rw [hi] at HT1 HT2 HIN
        simp only [Bool.not_true, if_true, if_false, Bool.false_eq_true] at HT1 HT2
        clear hi
        obtain ⟨⟨ys, yb, yu, yt⟩, ba, bn, bc, ta, tn, tc⟩ := y
        try dsimp only at HT1 HIN
        replace HCE : Hid (∀ j v, (fiC ys (.slice ba bn bc) yu (.slice ta tn tc))[j]? = some v → wr.cell? ⟨b, off + k * 4 + j, none⟩ = some v) := HCE
        go_wp2_with (first
    | ((with_reducible refine load_cells (o := ⟨some 21, _, _, _, _, _⟩) rfl _ _ rfl b (off + k * 4) ?_ (fiC ys (.slice ba bn bc) yu (.slice ta tn tc)) _ HCE.out Tryz.underlying44 ?_ ?_ ?_); (focus go_simp); (focus rfl); (focus (exact SZ.out)))
    | (go_at_call 26; (with_reducible refine HIN.out.mono ?_); rintro e w3 ⟨rfl, hb⟩; have D3 := Lib.hid hb; have B3 := Lib.hid (B.out.trans (hb.mono B.out.size)); have O3 := Lib.hid (O.out.kept hb); have M3 := Lib.hid (M.out.kept hb); have c3 := (XR.out.mono hb).rp.k2.1; have HCE2 := Lib.hid (show ∀ j v, (fiC ys (.slice ba bn bc) yu (.slice ta tn tc))[j]? = some v → w3.cell? ⟨b, off + k * 4 + j, none⟩ = some v from fun j v hj => (hb.cell (p := ⟨b, off + k * 4 + j, none⟩) BL.out).trans (HCE.out j v hj)); clear hb c0)
    | ((with_reducible refine load_cells (o := ⟨some 30, _, _, _, _, _⟩) rfl _ _ rfl b (off + k * 4) ?_ (fiC ys (.slice ba bn bc) yu (.slice ta tn tc)) _ HCE2.out Tryz.underlying44 ?_ ?_ ?_); (focus go_simp); (focus rfl); (focus (exact SZ.out)))
    | ((with_reducible refine build_ls fiOk fi_fill (o := ⟨some 31, _, _, _, _, _⟩) rfl _ rfl ⟨⟨ys, yb, yu, yt⟩, ba, bn, bc, ta, tn, tc⟩ ?_ (HF.out.mono D3.out) (by decide) ?_); (focus (first | (go_simp; done) | (go_simp; rfl))); intro w5 hl hb hz; have L5 := Lib.hid hl; have B5 := Lib.hid (B3.out.trans (hb.mono B3.out.size)); have O5 := Lib.hid (O3.out.kept hb); have M5 := Lib.hid (M3.out.kept hb); clear hl hb hz)
    | (at_builtin; (with_reducible refine append_fi (o := ⟨some 32, _, _, _, _, _⟩) rfl _ _ rfl w.heap.size _ ((Y.take k).filter fun y => intactC y.f) ?_ O5.out (some ⟨w3.heap.size, 0, none⟩) 1 1 [⟨⟨ys, yb, yu, yt⟩, ba, bn, bc, ta, tn, tc⟩] ?_ L5.out (by have := HZL.out; omega) B5.out.size ?_); (focus (first | (go_simp; done) | (go_simp; rfl))); (focus (first | (go_simp; done) | (go_simp; rfl))); intro v6 w6 hN hb2 hg2 hv2; have O6 := Lib.hid hN; have B6 := Lib.hid (B5.out.trans hb2); have M6 := Lib.hid (M5.out.grownF O5.out.own hg2); clear hN hb2 hg2 hv2))
        go_roundw
        case rel => exact ⟨k + 1, vint (by omega), by omega, Lib.hid (by rw [HT1.out]; exact O6.out), Lib.hid (by rw [HT2.out, List.append_nil]; exact M6.out), B6, Lib.hid (.inr trivial)⟩
        case measure => simp [intOf]; omega
    · obtain rfl : n = k := by omega
      have OV := Lib.hid (lso_cells O.out.own)
      have OW := Lib.hid (lso_cell O.out.own)
      have RQ := Lib.hid (H.out.mono B.out).rp
      go_wp2_with ((with_reducible refine store_cell (o := ⟨none, _, _, _, _, _⟩) rfl _ (.tmp 47) _ rfl q 0 _ ?_ ?_ OV.out OW.out 68 _ RQ.out size_fis ?_ ?_); (focus go_simp); (focus (first | (go_simp; done) | (go_simp; rfl))); (focus (show 0 < 2; decide)); intro w7 hr hu; have R7 := Lib.hid hr; have U7 := Lib.hid hu; clear hr hu)
      go_ret
      have E := H.out.mono B.out
      have hT := HTA.out
      obtain ⟨a', c', -, X7⟩ := E.relist O.out U7.out R7.out (fun k => T k ∨ (w.heap.size ≤ k ∧ k < wr.heap.size)) (fun k h => .inl h) (fun k h => h.elim (E.lt k) (·.2)) (fun g e => .inr ⟨(World.ownsRow.lt O.out.own g e).1, O.out.own.blt e⟩)
        (fun z hz b off s e => .inl ((hT z (List.mem_of_mem_take (List.mem_filter.1 hz).1)).1 b off s e)) (fun z hz b off s e => .inl ((hT z (List.mem_of_mem_take (List.mem_filter.1 hz).1)).2 b off s e))
      have e1 : Y.take n = Y := List.take_of_length_le (by rw [HL.out]; exact Nat.le_refl _)
      rw [e1] at X7
      rw [e1] at M
      refine ⟨_, rfl, M.out.upd U7.out (fun e => IsTy.ne (lso_ty M.out e) RQ.out.ty (by decide) rfl), a', c', ?_, (Ft.of_below B.out).on (Ft.of_upd (F := fun k => k = q) U7.out rfl) (fun b hb => .inl hb)⟩
      rw [show w7.heap.size = wr.heap.size from U7.out.size]
      exact X7
set_option maxRecDepth 100000 in
set_option maxHeartbeats 8000000 in
theorem xcsweep {w : World} {q n c : Nat} {most : Int} {a : Option Addr} {Y : List FY} {T : Nat → Prop} (time : Int) (na : Option Addr) (nn nc : Nat) (needs : List ByteArray) (la : Option Addr) (ln lc : Nat) (live : List Int)
    (h : XK w q most a n c Y T) (hn : n ≤ 524288) (hns : Ls strE w na nn nc needs) (hnn : nn ≤ 1000000) (hlv : Ls intE w la ln lc live) (hln : ln ≤ 1000000) :
    Calls Tryz.prog 46 #[.pointer (some ⟨q, 0, none⟩), .int .i64 time, .slice na nn nc, .slice la ln lc] w fun e w' => e = .returned (.int .i64 (((Y.filter fun y => goesC time needs live y.f).length : Nat) : Int)) ∧ ∃ a' c', XK w' q most a' (Y.filter fun y => !goesC time needs live y.f).length c' (Y.filter fun y => !goesC time needs live y.f) (fun k => T k ∨ (w.heap.size ≤ k ∧ k < w'.heap.size)) ∧ Ft (fun k => k = q) w w' := by
  have H := Lib.hid h
  have HL := Lib.hid h.ls.hlen
  have SZ := Lib.hid file_size
  have HTA := Lib.hid (show ∀ y ∈ Y, (∀ b off s, y.ba = some ⟨b, off, s⟩ → T b) ∧ (∀ b off s, y.ta = some ⟨b, off, s⟩ → T b) from fun y hy => ⟨h.Tb y hy, h.Tt y hy⟩)
  have HA := Lib.hid (fun w' (hb : Below w.heap.size w w') s => xchass na nn nc needs s w' (hns.mono strOk hb) hnn)
  have HO := Lib.hid (fun w' (hb : Below w.heap.size w w') (y : FY) (hy : FYr w' y) => xcold y time la ln lc live w' hy (hlv.mono intOk hb) hln)
  obtain ⟨G, hG⟩ : ∃ G : FY → Bool, (fun y : FY => goesC time needs live y.f) = G := ⟨_, rfl⟩
  have HG := Lib.hid (fun y => congrFun hG y)
  rw [hG, show (fun y : FY => !goesC time needs live y.f) = fun y => !G y from by rw [← hG]]
  clear h hns hlv hG
  go_enter Tryz.func46, Tryz.ntmps46
  go_wp2_with fail
  go_loopw [9, 10] (fun v i wr => ∃ (k : Nat), i = .int .i64 (k : Int) ∧ k ≤ n ∧ Hid (LsF wr w.heap.size v ((Y.take k).filter fun y => !G y)) ∧ Hid (Below w.heap.size w wr)) (fun _ i _ => n - (intOf i).toNat)
  case atStart => exact ⟨0, rfl, Nat.zero_le _, Lib.hid (LsF.nil _ _), Lib.hid (Below.refl _ _)⟩
  case round =>
    obtain ⟨k, rfl, hk, O, B⟩ := hrel
    have c0 := (H.out.mono B.out).rp.k2.1
    by_cases hlt : k < n
    · obtain ⟨b, off, y, rfl, hy, hc, hf⟩ := (H.out.mono B.out).ls.at fiOk (Below.refl _ _) k hlt
      have HCE := Lib.hid (show ∀ j v, y.cells[j]? = some v → wr.cell? ⟨b, off + k * 4 + j, none⟩ = some v from hc)
      have BL := Lib.hid (show b < wr.heap.size from ((H.out.mono B.out).Ta b off none rfl).2.lt)
      have g1 : (0 : Int) ≤ (k : Int) := by omega
      have g2 : (k : Int) < (n : Int) := by omega
      have HF := Lib.hid hf
      have HT1 := Lib.hid (filter_take (fun y : FY => !G y) hy)
      have HZL := Lib.hid (show ((Y.take k).filter fun y => !G y).length ≤ 524288 by have h1 := List.length_filter_le (fun y : FY => !G y) (Y.take k); rw [List.length_take] at h1; omega)
      have XR := Lib.hid (H.out.mono B.out)
      have HAS := Lib.hid (HA.out wr B.out y.f.s)
      have HOL := Lib.hid (HO.out wr B.out y hf)
      have HGY := Lib.hid (HG.out y)
      have D0 := Lib.hid (hc 0 (.string y.f.s) rfl)
      clear hc hf hy
      by_cases hh : (needs.any fun z => decide (z = y.f.s)) = true
      · rw [hh] at HAS
        have hgy : G y = false := by rw [← HGY.out]; unfold goesC; simp [hh]
        rw [hgy] at HT1
        simp only [Bool.not_false, if_true] at HT1
        clear hgy hh
        obtain ⟨⟨ys, yb, yu, yt⟩, ba, bn, bc, ta, tn, tc⟩ := y
        try dsimp only at HT1 HAS D0
        have d0 : wr.cell? ⟨b, off + k * 4, none⟩ = some (.string ys) := D0.out
        replace HCE : Hid (∀ j v, (fiC ys (.slice ba bn bc) yu (.slice ta tn tc))[j]? = some v → wr.cell? ⟨b, off + k * 4 + j, none⟩ = some v) := HCE
        have B3 := B
        have O3 := O
        have D3 := Lib.hid (Below.refl wr.heap.size wr)
        go_wp2_with (first
    | (go_at_call 74; (with_reducible refine HAS.out.mono ?_); rintro e w3 ⟨rfl, rfl⟩)
    | ((with_reducible refine load_cells (o := ⟨some 51, _, _, _, _, _⟩) rfl _ _ rfl b (off + k * 4) ?_ (fiC ys (.slice ba bn bc) yu (.slice ta tn tc)) _ HCE.out Tryz.underlying44 ?_ ?_ ?_); (focus go_simp); (focus rfl); (focus (exact SZ.out)))
    | ((with_reducible refine build_ls fiOk fi_fill (o := ⟨some 52, _, _, _, _, _⟩) rfl _ rfl ⟨⟨ys, yb, yu, yt⟩, ba, bn, bc, ta, tn, tc⟩ ?_ (HF.out.mono D3.out) (by decide) ?_); (focus (first | (go_simp; done) | (go_simp; rfl))); intro w5 hl hb hz; have L5 := Lib.hid hl; have B5 := Lib.hid (B3.out.trans (hb.mono B3.out.size)); have O5 := Lib.hid (O3.out.kept hb); clear hl hb hz)
    | (at_builtin; (with_reducible refine append_fi (o := ⟨some 53, _, _, _, _, _⟩) rfl _ _ rfl w.heap.size _ ((Y.take k).filter fun y => !G y) ?_ O5.out (some ⟨wr.heap.size, 0, none⟩) 1 1 [⟨⟨ys, yb, yu, yt⟩, ba, bn, bc, ta, tn, tc⟩] ?_ L5.out (by have := HZL.out; omega) B5.out.size ?_); (focus (first | (go_simp; done) | (go_simp; rfl))); (focus (first | (go_simp; done) | (go_simp; rfl))); intro v6 w6 hN hb2 hg2 hv2; have O6 := Lib.hid hN; have B6 := Lib.hid (B5.out.trans hb2); clear hN hb2 hg2 hv2))
        go_roundw
        case rel => exact ⟨k + 1, vint (by omega), by omega, Lib.hid (by rw [HT1.out]; exact O6.out), B6⟩
        case measure => simp [intOf]; omega
      · have hh2 : (needs.any fun z => decide (z = y.f.s)) = false := (Bool.not_eq_true _).mp hh
        rw [hh2] at HAS
        cases ho : oldC time live y.f
        · rw [ho] at HOL
          have hgy : G y = false := by rw [← HGY.out]; unfold goesC; simp [ho]
          rw [hgy] at HT1
          simp only [Bool.not_false, if_true] at HT1
          clear hgy hh hh2 ho
          obtain ⟨⟨ys, yb, yu, yt⟩, ba, bn, bc, ta, tn, tc⟩ := y
          try dsimp only at HT1 HAS D0 HOL
          have d0 : wr.cell? ⟨b, off + k * 4, none⟩ = some (.string ys) := D0.out
          replace HCE : Hid (∀ j v, (fiC ys (.slice ba bn bc) yu (.slice ta tn tc))[j]? = some v → wr.cell? ⟨b, off + k * 4 + j, none⟩ = some v) := HCE
          have d1 : wr.cell? ⟨b, off + k * 4 + 1, none⟩ = some (.slice ba bn bc) := HCE.out 1 (.slice ba bn bc) rfl
          have d2 : wr.cell? ⟨b, off + k * 4 + 2, none⟩ = some (.int .i64 (yu : Int)) := HCE.out 2 (.int .i64 (yu : Int)) rfl
          have d3 : wr.cell? ⟨b, off + k * 4 + 3, none⟩ = some (.slice ta tn tc) := HCE.out 3 (.slice ta tn tc) rfl
          go_wp2_with (first
    | (go_at_call 74; (with_reducible refine HAS.out.mono ?_); rintro e w2 ⟨rfl, rfl⟩)
    | (go_at_call 75; (with_reducible refine HOL.out.mono ?_); rintro e w3 ⟨rfl, hb⟩; have D3 := Lib.hid hb; have B3 := Lib.hid (B.out.trans (hb.mono B.out.size)); have O3 := Lib.hid (O.out.kept hb); have c3 := (XR.out.mono hb).rp.k2.1; have HCE2 := Lib.hid (show ∀ j v, (fiC ys (.slice ba bn bc) yu (.slice ta tn tc))[j]? = some v → w3.cell? ⟨b, off + k * 4 + j, none⟩ = some v from fun j v hj => (hb.cell (p := ⟨b, off + k * 4 + j, none⟩) BL.out).trans (HCE.out j v hj)); clear hb c0)
    | ((with_reducible refine load_cells (o := ⟨some 51, _, _, _, _, _⟩) rfl _ _ rfl b (off + k * 4) ?_ (fiC ys (.slice ba bn bc) yu (.slice ta tn tc)) _ HCE2.out Tryz.underlying44 ?_ ?_ ?_); (focus go_simp); (focus rfl); (focus (exact SZ.out)))
    | ((with_reducible refine build_ls fiOk fi_fill (o := ⟨some 52, _, _, _, _, _⟩) rfl _ rfl ⟨⟨ys, yb, yu, yt⟩, ba, bn, bc, ta, tn, tc⟩ ?_ (HF.out.mono D3.out) (by decide) ?_); (focus (first | (go_simp; done) | (go_simp; rfl))); intro w5 hl hb hz; have L5 := Lib.hid hl; have B5 := Lib.hid (B3.out.trans (hb.mono B3.out.size)); have O5 := Lib.hid (O3.out.kept hb); clear hl hb hz)
    | (at_builtin; (with_reducible refine append_fi (o := ⟨some 53, _, _, _, _, _⟩) rfl _ _ rfl w.heap.size _ ((Y.take k).filter fun y => !G y) ?_ O5.out (some ⟨w3.heap.size, 0, none⟩) 1 1 [⟨⟨ys, yb, yu, yt⟩, ba, bn, bc, ta, tn, tc⟩] ?_ L5.out (by have := HZL.out; omega) B5.out.size ?_); (focus (first | (go_simp; done) | (go_simp; rfl))); (focus (first | (go_simp; done) | (go_simp; rfl))); intro v6 w6 hN hb2 hg2 hv2; have O6 := Lib.hid hN; have B6 := Lib.hid (B5.out.trans hb2); clear hN hb2 hg2 hv2))
          go_roundw
          case rel => exact ⟨k + 1, vint (by omega), by omega, Lib.hid (by rw [HT1.out]; exact O6.out), B6⟩
          case measure => simp [intOf]; omega
        · rw [ho] at HOL
          have hgy : G y = true := by rw [← HGY.out]; unfold goesC; rw [hh2, ho]; rfl
          rw [hgy] at HT1
          simp only [Bool.not_true, if_false, Bool.false_eq_true, List.append_nil] at HT1
          clear hgy hh hh2 ho
          obtain ⟨⟨ys, yb, yu, yt⟩, ba, bn, bc, ta, tn, tc⟩ := y
          try dsimp only at HAS D0 HOL
          have d0 : wr.cell? ⟨b, off + k * 4, none⟩ = some (.string ys) := D0.out
          replace HCE : Hid (∀ j v, (fiC ys (.slice ba bn bc) yu (.slice ta tn tc))[j]? = some v → wr.cell? ⟨b, off + k * 4 + j, none⟩ = some v) := HCE
          have d1 : wr.cell? ⟨b, off + k * 4 + 1, none⟩ = some (.slice ba bn bc) := HCE.out 1 (.slice ba bn bc) rfl
          have d2 : wr.cell? ⟨b, off + k * 4 + 2, none⟩ = some (.int .i64 (yu : Int)) := HCE.out 2 (.int .i64 (yu : Int)) rfl
          have d3 : wr.cell? ⟨b, off + k * 4 + 3, none⟩ = some (.slice ta tn tc) := HCE.out 3 (.slice ta tn tc) rfl
          go_wp2_with (first
    | (go_at_call 74; (with_reducible refine HAS.out.mono ?_); rintro e w2 ⟨rfl, rfl⟩)
    | (go_at_call 75; (with_reducible refine HOL.out.mono ?_); rintro e w3 ⟨rfl, hb⟩; have B3 := Lib.hid (B.out.trans (hb.mono B.out.size)); have O3 := Lib.hid (O.out.kept hb); clear hb c0))
          go_roundw
          case rel => exact ⟨k + 1, vint (by omega), by omega, Lib.hid (by rw [HT1.out]; exact O3.out), B3⟩
          case measure => simp [intOf]; omega
    · obtain rfl : n = k := by omega
      have OV := Lib.hid (lso_cells O.out.own)
      have OW := Lib.hid (lso_cell O.out.own)
      have RQ := Lib.hid (H.out.mono B.out).rp
      have hfl : ((Y.take n).filter fun y => !G y).length + (Y.filter G).length = n := by
        rw [List.take_of_length_le (by rw [HL.out]; exact Nat.le_refl _)]
        have h1 := filt_len G Y
        have h2 := HL.out
        omega
      obtain ⟨va, vc, hv, hls, -⟩ := O.out.own.ls fiOk O.out.fit
      subst hv
      obtain ⟨m, hm⟩ : ∃ m, ((Y.take n).filter fun y => !G y).length = m := ⟨_, rfl⟩
      have HM := Lib.hid hm
      rw [hm] at hfl OV OW O hls ⊢
      clear hls
      go_wp2_with ((with_reducible refine store_cell (o := ⟨none, _, _, _, _, _⟩) rfl _ (.tmp 65) _ rfl q 0 _ ?_ ?_ OV.out OW.out 68 _ RQ.out size_fis ?_ ?_); (focus go_simp); (focus (first | (go_simp; done) | (go_simp; rfl))); (focus (show 0 < 2; decide)); intro w7 hr hu; have R7 := Lib.hid hr; have U7 := Lib.hid hu; clear hr hu)
      go_ret
      have E := H.out.mono B.out
      have hT := HTA.out
      obtain ⟨a', c', -, X7⟩ := E.relist O.out U7.out R7.out (fun k => T k ∨ (w.heap.size ≤ k ∧ k < wr.heap.size)) (fun k h => .inl h) (fun k h => h.elim (E.lt k) (·.2)) (fun g e => .inr ⟨(World.ownsRow.lt O.out.own g e).1, O.out.own.blt e⟩)
        (fun z hz b off s e => .inl ((hT z (List.mem_of_mem_take (List.mem_filter.1 hz).1)).1 b off s e)) (fun z hz b off s e => .inl ((hT z (List.mem_of_mem_take (List.mem_filter.1 hz).1)).2 b off s e))
      have e1 : Y.take n = Y := List.take_of_length_le (by rw [HL.out]; exact Nat.le_refl _)
      rw [e1] at X7
      refine ⟨one (vint (by omega)), a', c', ?_, (Ft.of_below B.out).on (Ft.of_upd (F := fun k => k = q) U7.out rfl) (fun b hb => .inl hb)⟩
      rw [show w7.heap.size = wr.heap.size from U7.out.size]
      exact X7
end Go.Proofs.YtkfhppbmnjmnoaaGreatDoor.W

/- LAYER 28 (chunk): what each call keeps of a store, plainly. -/
set_option linter.unusedSimpArgs false
set_option linter.unusedVariables false
namespace Go.Proofs.YtkfhppbmnjmnoaaGreatDoor.W
open Go Go.ChangeShapes Go.WideShapes Go.ChangeAt Go.RowKit
open Go.Proofs.YtkfhppbmnjmnoaaGreatDoor.P (shaL shaL_len)

theorem risc_map {L : List Fi} : RisC L ↔ (L.map (·.s)).Pairwise fun a b => ltM a b = true := by unfold RisC; rw [List.pairwise_map]
theorem used_cons (f : Fi) (L : List Fi) : usedC (f :: L) = f.b.length + usedC L := by unfold usedC; rw [List.map_cons, List.sum_cons]
theorem FiOk.more {T T' : Nat} {f : Fi} (h : FiOk T f) (ht : T ≤ T') : FiOk T' f := { h with tl := Nat.le_trans h.tl ht }
theorem StOk.more {T T' : Nat} {room : Int} {L : List Fi} (h : StOk T room L) (ht : T ≤ T') : StOk T' room L := { h with ok := fun f hf => (h.ok f hf).more ht }
theorem used_sync (L : List Fi) : usedC (syncC L) = usedC L := by unfold usedC syncC; rw [List.map_map]; rfl
theorem StOk.sync {T : Nat} {room : Int} {L : List Fi} (h : StOk T room L) : StOk T room (syncC L) where
  ris := by have := risc_map.1 h.ris; refine risc_map.2 ?_; unfold syncC; rw [List.map_map]; exact this
  ok := fun f hf => by
    obtain ⟨g, hg, rfl⟩ := List.mem_map.1 hf
    have := h.ok g hg
    exact { this with su := Nat.le_refl _ }
  us := by rw [used_sync]; exact h.us
  rm := h.rm
theorem used_filter (p : Fi → Bool) : ∀ L : List Fi, usedC (L.filter p) ≤ usedC L
  | [] => Nat.le_refl _
  | f :: r => by
    have := used_filter p r
    rw [List.filter_cons]
    split
    · rw [used_cons, used_cons]; omega
    · rw [used_cons]; omega
theorem StOk.filter {T : Nat} {room : Int} {L : List Fi} (h : StOk T room L) (p : Fi → Bool) : StOk T room (L.filter p) where
  ris := List.Pairwise.filter _ h.ris
  ok := fun f hf => h.ok f (List.mem_filter.1 hf).1
  us := by have := used_filter p L; have := h.us; omega
  rm := h.rm
theorem FiOk.cut {T q : Nat} {f : Fi} (h : FiOk T f) (h0 : q ≠ 0) (hq : q ≤ f.b.length) : FiOk T (cutF f q) :=
  { h with
    b1 := by show 1 ≤ (f.b.take q).length; rw [List.length_take]; omega
    b2 := by show (f.b.take q).length ≤ 256; have := h.b2; rw [List.length_take]; omega
    su := by show q ≤ (f.b.take q).length; rw [List.length_take]; omega }
theorem crash_mem {T : Nat} (ks : List Int) : ∀ (L : List Fi) (nx : Nat), (∀ f ∈ L, FiOk T f) → ∀ g ∈ crashC ks nx L, ∃ f ∈ L, g = f ∨ ∃ q, q ≠ 0 ∧ q ≤ f.b.length ∧ g = cutF f q
  | [], _, _, g, hg => by simp [crashC] at hg
  | f :: r, nx, h, g, hg => by
    have h1 := fun nx => crash_mem ks r nx (fun z hz => h z (List.mem_cons_of_mem _ hz)) g
    have okf := h f (List.mem_cons_self ..)
    have hle := (leftB_le ks nx f okf.su).1
    unfold leftB at hle
    unfold crashC at hg
    split at hg
    · split at hg
      · obtain ⟨z, hz, e⟩ := h1 _ hg; exact ⟨z, List.mem_cons_of_mem _ hz, e⟩
      · rename_i hne
        rcases List.mem_cons.1 hg with rfl | hg
        · exact ⟨f, List.mem_cons_self .., .inr ⟨_, hne, hle, rfl⟩⟩
        · obtain ⟨z, hz, e⟩ := h1 _ hg; exact ⟨z, List.mem_cons_of_mem _ hz, e⟩
    · rcases List.mem_cons.1 hg with rfl | hg
      · exact ⟨_, List.mem_cons_self .., .inl rfl⟩
      · obtain ⟨z, hz, e⟩ := h1 _ hg; exact ⟨z, List.mem_cons_of_mem _ hz, e⟩
theorem crash_s {T : Nat} (ks : List Int) (L : List Fi) (nx : Nat) (h : ∀ f ∈ L, FiOk T f) (g : Fi) (hg : g ∈ crashC ks nx L) : ∃ f ∈ L, g.s = f.s := by
  obtain ⟨f, hf, rfl | ⟨q, -, -, rfl⟩⟩ := crash_mem ks L nx h g hg
  · exact ⟨_, hf, rfl⟩
  · exact ⟨f, hf, rfl⟩
theorem crash_ris {T : Nat} (ks : List Int) : ∀ (L : List Fi) (nx : Nat), (∀ f ∈ L, FiOk T f) → RisC L → RisC (crashC ks nx L) ∧ usedC (crashC ks nx L) ≤ usedC L
  | [], _, _, _ => ⟨List.Pairwise.nil, Nat.le_refl _⟩
  | f :: r, nx, h, hr => by
    have hokr : ∀ z ∈ r, FiOk T z := fun z hz => h z (List.mem_cons_of_mem _ hz)
    obtain ⟨h1, h2⟩ := List.pairwise_cons.1 hr
    have h3 := fun nx => crash_ris ks r nx hokr h2
    have h4 : ∀ nx, ∀ g ∈ crashC ks nx r, ltM f.s g.s = true := fun nx g hg => by
      obtain ⟨z, hz, e⟩ := crash_s ks r nx hokr g hg
      rw [e]; exact h1 z hz
    unfold crashC
    split
    · split
      · exact ⟨(h3 _).1, by rw [used_cons]; have := (h3 (nx + 1)).2; omega⟩
      · refine ⟨List.pairwise_cons.2 ⟨fun g hg => h4 _ g hg, (h3 _).1⟩, ?_⟩
        rw [used_cons, used_cons]
        have := (h3 (nx + 1)).2
        have e : ∀ q, (cutF f q).b.length ≤ f.b.length := fun q => by show (f.b.take q).length ≤ _; rw [List.length_take]; omega
        have := e (f.su + (stayV ks nx ((f.b.length : Int) - f.su)).toNat)
        omega
    · refine ⟨List.pairwise_cons.2 ⟨fun g hg => h4 _ g hg, (h3 _).1⟩, ?_⟩
      rw [used_cons, used_cons]
      have := (h3 nx).2
      omega
theorem StOk.crash {T : Nat} {room : Int} {L : List Fi} (h : StOk T room L) (ks : List Int) (nx : Nat) : StOk T room (crashC ks nx L) where
  ris := (crash_ris ks L nx h.ok h.ris).1
  ok := fun g hg => by
    obtain ⟨f, hf, rfl | ⟨q, h0, hq, rfl⟩⟩ := crash_mem ks L nx h.ok g hg
    · exact h.ok _ hf
    · exact (h.ok f hf).cut h0 hq
  us := by have := (crash_ris ks L nx h.ok h.ris).2; have := h.us; omega
  rm := h.rm
theorem StOk.rot {T : Nat} {room : Int} {L : List Fi} (h : StOk T room L) (i j bt : Int) : StOk T room (rotC L i j bt) := by
  unfold rotC
  split
  · exact h
  · rename_i f hf
    have hfm : f ∈ L := List.mem_of_getElem? hf
    refine { ris := ?_, ok := ?_, us := ?_, rm := h.rm }
    · have := risc_map.1 h.ris
      refine risc_map.2 ?_
      rw [List.map_set, set_self (by rw [List.getElem?_map, hf]; rfl)]
      exact this
    · intro g hg
      rcases List.mem_or_eq_of_mem_set hg with hg | rfl
      · exact h.ok g hg
      · have := h.ok f hfm
        exact { this with b1 := by simpa using this.b1, b2 := by simpa using this.b2, su := by simpa using this.su }
    · have e : usedC (L.set (i % (L.length : Int)).toNat ⟨f.s, f.b.set (j % (f.b.length : Int)).toNat ((f.b.getD (j % (f.b.length : Int)).toNat 0) ^^^ UInt8.ofNat (bt % 256).toNat), f.su, f.t⟩) = usedC L := by
        unfold usedC
        rw [List.map_set, set_self (by rw [List.getElem?_map, hf]; simp)]
      rw [e]; exact h.us
-- ---- Put
theorem putL_mem (f : Fi) : ∀ (L : List Fi) (g : Fi), g ∈ putL L f → g = f ∨ g ∈ L
  | [], g, h => .inl (by simpa [putL] using h)
  | z :: r, g, h => by
    have h1 := putL_mem f r g
    unfold putL at h
    split at h
    · rcases List.mem_cons.1 h with rfl | h
      · exact .inl rfl
      · exact .inr h
    · split at h
      · rcases List.mem_cons.1 h with rfl | h
        · exact .inl rfl
        · exact .inr (List.mem_cons_of_mem _ h)
      · rcases List.mem_cons.1 h with rfl | h
        · exact .inr (List.mem_cons_self ..)
        · exact (h1 h).imp id (List.mem_cons_of_mem _)
theorem lt_or_eq {a b : ByteArray} (h1 : ¬ ltM a b = true) (h2 : ¬ a = b) : ltM b a = true := ltM_total ((Bool.not_eq_true _).mp h1) h2
theorem putL_ris (f : Fi) : ∀ (L : List Fi), RisC L → RisC (putL L f)
  | [], _ => List.pairwise_singleton _ _
  | z :: r, h => by
    obtain ⟨h1, h2⟩ := List.pairwise_cons.1 h
    unfold putL
    split
    · rename_i hlt
      exact List.pairwise_cons.2 ⟨fun g hg => by rcases List.mem_cons.1 hg with rfl | hg; exact hlt; exact mt_trans hlt (h1 g hg), h⟩
    · split
      · rename_i e
        exact List.pairwise_cons.2 ⟨fun g hg => by rw [e]; exact h1 g hg, h2⟩
      · rename_i hn he
        refine List.pairwise_cons.2 ⟨fun g hg => ?_, putL_ris f r h2⟩
        rcases putL_mem f r g hg with rfl | hg
        · exact lt_or_eq hn he
        · exact h1 g hg
theorem used_put_none (f : Fi) : ∀ L : List Fi, (∀ z ∈ L, z.s ≠ f.s) → usedC (putL L f) = usedC L + f.b.length
  | [], _ => by simp [putL, usedC]
  | z :: r, h => by
    have h1 := used_put_none f r fun y hy => h y (List.mem_cons_of_mem _ hy)
    have h2 := h z (List.mem_cons_self ..)
    unfold putL
    split
    · rw [used_cons f]; omega
    · split
      · rename_i e; exact absurd e.symm h2
      · rw [used_cons, used_cons, h1]; omega
theorem used_put_some (f g : Fi) : ∀ L : List Fi, RisC L → g ∈ L → g.s = f.s → usedC (putL L f) + g.b.length = usedC L + f.b.length
  | [], _, h, _ => by cases h
  | z :: r, hr, h, e => by
    obtain ⟨h1, h2⟩ := List.pairwise_cons.1 hr
    rcases List.mem_cons.1 h with rfl | h
    · unfold putL
      rw [if_neg (by rw [← e, ltM_self]; decide), if_pos e.symm, used_cons, used_cons]; omega
    · have h3 := used_put_some f g r h2 h e
      have h4 := h1 g h
      rw [e] at h4
      unfold putL
      rw [if_neg (by rw [ltM_asym h4]; decide), if_neg (fun e2 => by rw [e2, ltM_self] at h4; cases h4), used_cons, used_cons]
      omega
theorem StOk.put {T : Nat} {room : Int} {L : List Fi} (h : StOk T room L) (b : List UInt8) (time : Int) (ht : SI64 time) : StOk (T + 1) room (putC room L b time).1 := by
  unfold putC
  split
  · exact h.more (Nat.le_succ _)
  rename_i hb
  have hs : (sumOf b).size ≤ 1000000 := by rw [sumOf_size]; decide
  rcases find_or (sumOf b) L with ⟨e, hno⟩ | ⟨g, e, hg, hgs⟩
  · rw [e]
    dsimp only
    split
    · exact h.more (Nat.le_succ _)
    · rename_i hfull
      refine { ris := putL_ris _ _ h.ris, ok := fun f hf => ?_, us := ?_, rm := h.rm }
      · rcases putL_mem _ _ _ hf with rfl | hf
        · exact ⟨hs, by show 1 ≤ b.length; omega, by show b.length ≤ 256; omega, Nat.zero_le _, by simp, by intro t ht2; simp at ht2; subst ht2; exact ht, List.pairwise_singleton _ _⟩
        · exact (h.ok f hf).more (Nat.le_succ _)
      · rw [used_put_none _ _ hno]; show ((usedC L + b.length : Nat) : Int) ≤ room; omega
  · rw [e]
    dsimp only
    have okg := h.ok g hg
    split
    · rename_i heq
      refine { ris := putL_ris _ _ h.ris, ok := fun f hf => ?_, us := ?_, rm := h.rm }
      · rcases putL_mem _ _ _ hf with rfl | hf
        · exact ⟨okg.s, okg.b1, okg.b2, okg.su, by have := timed_len g.t time; have := okg.tl; show (timedL g.t time).length ≤ T + 1; omega, fun t ht2 => by rcases timed_mem g.t time t ht2 with rfl | h2; exact ht; exact okg.t64 t h2, timed_ris g.t time okg.tr⟩
        · exact (h.ok f hf).more (Nat.le_succ _)
      · have := used_put_some ⟨g.s, g.b, g.su, timedL g.t time⟩ g L h.ris hg rfl
        have := h.us
        dsimp only at *
        omega
    · split
      · exact h.more (Nat.le_succ _)
      · split
        · exact h.more (Nat.le_succ _)
        · rename_i hfull
          refine { ris := putL_ris _ _ h.ris, ok := fun f hf => ?_, us := ?_, rm := h.rm }
          · rcases putL_mem _ _ _ hf with rfl | hf
            · exact ⟨hs, by show 1 ≤ b.length; omega, by show b.length ≤ 256; omega, Nat.zero_le _, by have := timed_len g.t time; have := okg.tl; show (timedL g.t time).length ≤ T + 1; omega, fun t ht2 => by rcases timed_mem g.t time t ht2 with rfl | h2; exact ht; exact okg.t64 t h2, timed_ris g.t time okg.tr⟩
            · exact (h.ok f hf).more (Nat.le_succ _)
          · have := used_put_some ⟨sumOf b, b, 0, timedL g.t time⟩ g L h.ris hg hgs
            dsimp only at *
            omega
end Go.Proofs.YtkfhppbmnjmnoaaGreatDoor.W

/- A load of cells as a run. No number of a dump. -/
set_option linter.unusedSimpArgs false
set_option linter.unusedVariables false
namespace Go.Proofs.YtkfhppbmnjmnoaaGreatDoor.W
open Go Go.ChangeShapes Go.WideShapes Go.ChangeAt Go.RowKit

/-- LOAD of an array out of cells, as a run -/
theorem run_cells {P : Program} {w : World} {o : Oper} {a : Act} (ty : TypeId) (x : Operand) (ho : o.op = .load ty x)
    (g off : Nat) (hx : a.eval x = .pointer (some ⟨g, off, none⟩)) (L : List Value) (d : TypeDesc) (hc : ∀ j v, L[j]? = some v → w.cell? ⟨g, off + j, none⟩ = some v)
    (hu : P.underlying ty = some d) (hd : (match d with | .struct _ | .array _ _ => true | _ => false) = true) (hi : (P.info? ty).map (·.size) = some L.length) :
    (execOp a.eval o).run P w = .ok (.value (.agg L.toArray)) w := by
  have hl : (loadCells ⟨g, off, none⟩ L.length).run P w = .ok L.toArray w := run_loadCells_list (P := P) w ⟨g, off, none⟩ L (fun j v hv => by rw [Go.WideShapes.add_plain]; exact hc j v hv)
  have hagg : (isAgg ty).run P w = .ok true w := by
    unfold isAgg
    rw [Sem.run_bind, run_underlying hu w]
    cases d <;> simp_all
  unfold execOp
  cases hq : P.info? ty with
  | none => simp [hq] at hi
  | some i =>
    have hs : i.size = L.length := by simpa [hq] using hi
    simp [ho, hx, Instr.loadAt, Instr.sureAddr, loadVar, Sem.run_bind, hagg, sizeOf, typeInfo, hq, hs, hl, Result.andThen]

/-- STORE of a struct into a part of a row. -/
theorem store_prt {P : Program} {w : World} {ops : Array Oper} {rest : List Oper} {o : Oper} {a : Act} {Q : Exit → Act → World → Prop} (hgd : o.guard = none) (ty : TypeId) (x y : Operand) (ho : o.op = .store ty x y)
    (g off : Nat) (cells : List Value) (hx : a.eval x = .pointer (some ⟨g, off, none⟩)) (hy : a.eval y = .agg cells.toArray)
    (t : TypeId) (L : List Value) (hg : Row w g t L) (hi : (P.info? ty).map (·.size) = some cells.length) (hfit : off + cells.length ≤ L.length) (h1 : ∀ v ∈ cells, v.oneCell' = true)
    (h : ∀ w', Row w' g t (splice L off cells) → Upd w w' g → wpList P ops Q rest (a.put o.dst undef) w') : wpList P ops Q (o :: rest) a w := by
  refine wpList_plain hgd fun K hK => ?_
  have hrun := run_storeCells_at (P := P) g off t cells 0 L.toArray w hg (by simpa using hfit) h1
  unfold Oper.wp execOp
  cases hq : P.info? ty with
  | none => simp [hq] at hi
  | some i =>
    have hs : i.size = cells.length := by simpa [hq] using hi
    simp [ho, hx, hy, Instr.storeAt, Instr.sureAddr, storeVar, sizeOf, typeInfo, hq, hs, Value.cells, hrun, Result.andThen]
    refine hK _ _ (h _ ?_ (Upd.setRow _ _ _))
    unfold Row
    rw [setRow_heap w g _ _ _ _ hg]
    congr 2
end Go.Proofs.YtkfhppbmnjmnoaaGreatDoor.W

/- LAYER 28 (chunk): the reference's Rot. -/
set_option linter.unusedSimpArgs false
set_option linter.unusedVariables false
namespace Go.Proofs.YtkfhppbmnjmnoaaGreatDoor.W
open Go Go.ChangeShapes Go.WideShapes Go.ChangeAt Go.RowKit
open Go.Proofs.YtkfhppbmnjmnoaaGreatDoor.P (shaL shaL_len)

theorem XK.make {w : World} {q base : Nat} {most : Int} {Z : List FY} {v : Value} (hr : Row w q 68 [v, .int .i64 most]) (hl : LsF w base v Z) (T' : Nat → Prop) (hq : T' q) (hlt : ∀ k, T' k → k < w.heap.size)
    (hv : ∀ g, v.ownBlock = some g → T' g) (hb : ∀ y ∈ Z, ∀ b off s, y.ba = some ⟨b, off, s⟩ → T' b) (ht : ∀ y ∈ Z, ∀ b off s, y.ta = some ⟨b, off, s⟩ → T' b) :
    ∃ a' c', v = .slice a' Z.length c' ∧ XK w q most a' Z.length c' Z T' := by
  obtain ⟨a', c', rfl, hls, -⟩ := hl.own.ls fiOk hl.fit
  refine ⟨a', c', rfl, { rp := hr, ls := hls, Tq := hq, Ta := ?_, Tb := hb, Tt := ht, lt := hlt }⟩
  rintro b off s rfl
  exact ⟨hv b rfl, lso_ty hl.own rfl⟩
theorem size_byte : (Tryz.prog.info? 5).map (·.size) = some 1 := by kernel_rfl
/-- a byte of an own list is written -/
theorem store_byte {w : World} {ops : Array Oper} {rest : List Oper} {o : Oper} {a : Act} {Q : Exit → Act → World → Prop} (hgd : o.guard = none) (x y : Operand) (ho : o.op = .store 5 x y)
    (base g j n c : Nat) (l : List UInt8) (h : Fr w base (.slice (some ⟨g, 0, none⟩) n c) l) (hj : j < l.length) (v : UInt8) (hx : a.eval x = .pointer (some ⟨g, j, none⟩)) (hy : a.eval y = B v)
    (hk : ∀ w', Fr w' base (.slice (some ⟨g, 0, none⟩) n c) (l.set j v) → Upd w w' g → wpList Tryz.prog ops Q rest (a.put o.dst undef) w') : wpList Tryz.prog ops Q (o :: rest) a w := by
  obtain ⟨h1, h2⟩ := h
  rcases h2 with ⟨e, -⟩ | ⟨g', cap, cur, e, hg, hh, hn, hm, hsz, ht⟩
  · cases e
  injection e with e1 e2 e3
  injection e1 with e1
  injection e1 with e1
  subst e1 e2 e3
  have hsz2 : cur.toList.length = c := by simpa using hsz
  refine store_cell hgd 5 x y ho g j (B v) hx hy rfl rfl 5 cur.toList hh size_byte (by omega) fun w' hr hu => hk w' ⟨by simp, .inr ⟨g, c, (cur.toList.set j (B v)).toArray, by simp, hg, hr, by simpa using hn, hm, by simpa using hsz, ?_⟩⟩ hu
  have : List.take (l.length * 1) (cur.toList.set j (B v)) = (List.take (l.length * 1) cur.toList).set j (B v) := List.take_set ..
  rw [List.length_set]
  show List.take (l.length * 1) (cur.toList.set j (B v)) = _
  rw [this, ht, List.map_set]
set_option maxRecDepth 100000 in
set_option maxHeartbeats 8000000 in
theorem xcrot {w : World} {q n c : Nat} {most : Int} {a : Option Addr} {Y : List FY} {T : Nat → Prop} (i at' bt : Int) (h : XK w q most a n c Y T) (hn : n ≤ 524288) (hok : ∀ y ∈ Y, 1 ≤ y.f.b.length) :
    Calls Tryz.prog 43 #[.pointer (some ⟨q, 0, none⟩), .int .i64 i, .int .i64 at', .int .i64 bt] w fun e w' => e = .returned (.bool (decide (n ≠ 0))) ∧ ∃ a' c' Z, Z.map (·.f) = rotC (Y.map (·.f)) i at' bt ∧ XK w' q most a' n c' Z (fun k => T k ∨ (w.heap.size ≤ k ∧ k < w'.heap.size)) ∧ Ft (fun k => k = q) w w' := by
  have H := Lib.hid h
  have HL := Lib.hid h.ls.hlen
  have SZ := Lib.hid file_size
  have FZ := Lib.hid file_zero
  have c0 := h.rp.k2.1
  by_cases h0 : n = 0
  · subst h0
    have hY : Y = [] := List.eq_nil_of_length_eq_zero HL.out
    obtain ⟨R, hR⟩ : ∃ R, rotC (Y.map (·.f)) i at' bt = R := ⟨_, rfl⟩
    have HRE := Lib.hid (show Y.map (·.f) = R by rw [← hR, hY]; rfl)
    rw [hR]
    clear hY hR h hok
    go_enter Tryz.func43, Tryz.ntmps43
    go_wp2_with fail
    go_ret
    exact ⟨rfl, a, c, Y, HRE.out, { H.out with Tq := .inl H.out.Tq, Ta := fun b off s e => ⟨.inl (H.out.Ta b off s e).1, (H.out.Ta b off s e).2⟩, Tb := fun y hy b off s e => .inl (H.out.Tb y hy b off s e), Tt := fun y hy b off s e => .inl (H.out.Tt y hy b off s e), lt := fun k hk => hk.elim (H.out.lt k) (·.2) }, Ft.refl _ _⟩
  have hnp : 0 < n := by omega
  obtain ⟨k, hk⟩ : ∃ k : Nat, i % (n : Int) = k := ⟨(i % (n : Int)).toNat, by have := Int.emod_nonneg i (show (n : Int) ≠ 0 by omega); omega⟩
  have hkn : k < n := by have := Int.emod_lt_of_pos i (show 0 < (n : Int) by omega); omega
  have HM1 := Lib.hid (fun w => xcrest i n w ⟨by omega, by omega⟩)
  rw [hk] at HM1
  obtain ⟨b, off, y, rfl, hy, hc, hf⟩ := h.ls.at fiOk (Below.refl _ _) k hkn
  have hym := List.mem_of_getElem? hy
  have hrc : rotC (Y.map (·.f)) i at' bt = (Y.map (·.f)).set k ⟨y.f.s, y.f.b.set (at' % (y.f.b.length : Int)).toNat ((y.f.b.getD (at' % (y.f.b.length : Int)).toNat 0) ^^^ UInt8.ofNat (bt % 256).toNat), y.f.su, y.f.t⟩ := by
    unfold rotC
    rw [List.length_map, HL.out, hk, show (Int.toNat (k : Int)) = k by simp, show (Y.map (·.f))[k]? = some y.f by rw [List.getElem?_map, hy]; rfl]
  rw [hrc]
  have hb1 := hok y hym
  have hbm := hf.b1
  have hbl := hf.rb.hlen
  obtain ⟨bl, hbe⟩ : ∃ bl, y.f.b.length = bl := ⟨_, rfl⟩
  have HBE := Lib.hid hbe
  rw [hbe] at hb1 hbl ⊢
  obtain ⟨j, hj⟩ : ∃ j : Nat, at' % (bl : Int) = j := ⟨(at' % (bl : Int)).toNat, by have := Int.emod_nonneg at' (show (bl : Int) ≠ 0 by omega); omega⟩
  have hjn : j < bl := by have := Int.emod_lt_of_pos at' (show 0 < (bl : Int) by omega); omega
  have HM2 := Lib.hid (fun w => xcrest at' bl w ⟨by omega, by omega⟩)
  rw [hj] at HM2 ⊢
  rw [show (Int.toNat (j : Int)) = j by simp]
  have HCE := Lib.hid (show ∀ j v, y.cells[j]? = some v → w.cell? ⟨b, off + k * 4 + j, none⟩ = some v from hc)
  have g1 : (0 : Int) ≤ (k : Int) := by omega
  have g2 : (k : Int) < (n : Int) := by omega
  have g3 : ((n : Int) == 0) = false := by simp; omega
  have g4 : (0 : Int) ≤ (j : Int) := by omega
  have g5 : (j : Int) < (bl : Int) := by omega
  have HCP := Lib.hid (xccopied y w hf)
  have MK := Lib.hid (fun (base : Nat) (w3 : World) (bv tv : Value) (bb : List UInt8) (hbb : bb.length = bl) (h1 : Fr w3 base bv bb) (h2 : LsO intE w3 base tv y.f.t) => fy_made (s := y.f.s) (su := y.f.su) h1 h2 hf.rt.hfit hf.s (by omega) hf.su (by rw [hf.rt.hlen]; exact hf.t1))
  have HYK := Lib.hid hy
  clear hk hrc hc hf hym hbe hj hy h hok hbl
  obtain ⟨⟨ys, yb, yu, yt⟩, ba, bn, bc, ta, tn, tc⟩ := y
  dsimp only at HCE HCP MK HBE ⊢
  replace HCE : Hid (∀ j v, (fiC ys (.slice ba bn bc) yu (.slice ta tn tc))[j]? = some v → w.cell? ⟨b, off + k * 4 + j, none⟩ = some v) := HCE
  go_enter Tryz.func43, Tryz.ntmps43
  go_wp2_with (first
    | (go_at_call 73; (with_reducible refine (HM1.out _).mono ?_); rintro e w1 ⟨rfl, rfl⟩)
    | ((with_reducible refine load_cells (o := ⟨some 29, _, _, _, _, _⟩) rfl _ _ rfl b (off + k * 4) ?_ (fiC ys (.slice ba bn bc) yu (.slice ta tn tc)) _ HCE.out Tryz.underlying44 ?_ ?_ ?_); (focus go_simp); (focus rfl); (focus (exact SZ.out)))
    | (go_at_call 49; (with_reducible refine HCP.out.mono ?_); rintro e w3 ⟨bv, tv, rfl, hf, ht, hb⟩; obtain ⟨g, bc2, hbv, hle, hge, hlt⟩ := hf.pos (fun e => by have := HBE.out; rw [e] at this; simp at this; omega); rw [HBE.out] at hbv; subst hbv; have F3 := Lib.hid hf; have T3 := Lib.hid ht; have B3 := Lib.hid hb; have GE := Lib.hid hge; have OT := Lib.hid (lso_cell ht); clear hf ht hb hle hge hlt c0)
    | ((with_reducible refine alloc_row (o := ⟨some 9, _, _, _, _, _⟩) rfl _ rfl _ FZ.out ?_); intro w4 hr hb hz; have R4 := Lib.hid hr; have F4 := Lib.hid (F3.out.kept hb); have T4 := Lib.hid (T3.out.kept hb); have B4 := Lib.hid (B3.out.trans (hb.mono B3.out.size)); clear hr hb hz)
    | ((with_reducible refine store_row (o := ⟨none, _, _, _, _, _⟩) rfl _ (.tmp 9) _ rfl w3.heap.size (fiC ys (.slice (some ⟨g, 0, none⟩) bl bc2) yu tv) ?_ ?_ 44 _ R4.out ?_ ?_ ?_ ?_); (focus go_simp); (focus (first | (go_simp; done) | (go_simp; rfl))); (focus (exact SZ.out)); (focus rfl); (focus (exact fi_one _ _ _ _ rfl OT.out)); intro w5 hr hu; have R5 := Lib.hid hr; have F5 := Lib.hid (F4.out.keep fun z e => hu.block z (Nat.ne_of_lt (F3.out.blt e))); have T5 := Lib.hid (T4.out.keep fun z e => hu.block z (Nat.ne_of_lt (T3.out.blt e))); have B5 := Lib.hid (B4.out.trans (hu.below B3.out.size)); have q1 := hr.k4.2.1; clear hr hu)
    | (go_at_call 73; (with_reducible refine (HM2.out _).mono ?_); rintro e w6 ⟨rfl, rfl⟩; clear q1))
  have GL := Lib.hid (show g < w5.heap.size from F5.out.blt rfl)
  have L3 := Lib.hid (show w3.heap.size < w5.heap.size from R5.out.lt)
  have D5 : Hid (Below w5.heap.size w5 w5.drew) := Lib.hid (Below.refl _ _).drew
  refine region_t (fun v => Below w5.heap.size w5 v) 12 (by kernel_rfl) (by kernel_rfl) (by kernel_rfl) D5.out ?_
  obtain ⟨wd, hwd⟩ : ∃ wd, w5.drew = wd := ⟨_, rfl⟩
  rw [hwd] at D5 ⊢
  clear hwd
  obtain ⟨yv, hyv⟩ : ∃ yv, yb.getD j 0 = yv := ⟨_, rfl⟩
  have HYV := Lib.hid hyv
  have HJ := Lib.hid (show j < yb.length by rw [HBE.out]; exact hjn)
  have D2 := Lib.hid (show w5.cell? ⟨g, j, none⟩ = some (.int .u8 (yv.toNat : Int)) by have := F5.out.cellAt j HJ.out HBE.out.symm; rw [hyv] at this; exact this)
  have HXO := Lib.hid (show bits .xor .u8 (yv.toNat : Int) (bt % 256) = ((yv ^^^ UInt8.ofNat (bt % 256).toNat).toNat : Int) by
    rw [← xor8k]
    congr 1
    have h1 := Int.emod_nonneg bt (show (256 : Int) ≠ 0 by decide)
    have h2 := Int.emod_lt_of_pos bt (show (0 : Int) < 256 by decide)
    simp [UInt8.toNat_ofNat']
    omega)
  clear hyv
  (refine t_read 0 rfl (by kernel_rfl) (by kernel_rfl) (by kernel_rfl) (t_free rfl) ?_ ?_ ?_; rotate_left; (focus (intro v hv; go_simp; rfl)); go_simp)
  (refine t_read 1 rfl (by kernel_rfl) (by kernel_rfl) (by kernel_rfl) (t_free rfl) ?_ ?_ ?_; rotate_left; (focus (intro v hv; have q1 := (hv.cell (p := ⟨w3.heap.size, 1, none⟩) L3.out).trans R5.out.k4.2.1; have d2 := (hv.cell (p := ⟨g, j, none⟩) GL.out).trans D2.out; go_simp; rfl)); go_simp)
  (refine t_read 2 rfl (by kernel_rfl) (by kernel_rfl) (by kernel_rfl) (t_free rfl) ?_ ?_ ?_; rotate_left; (focus (intro v hv; go_simp; rfl)); go_simp)
  (refine t_read 3 rfl (by kernel_rfl) (by kernel_rfl) (by kernel_rfl) (t_free rfl) ?_ ?_ ?_; rotate_left; (focus (intro v hv; go_simp; rfl)); go_simp)
  (refine t_read 4 rfl (by kernel_rfl) (by kernel_rfl) (by kernel_rfl) (t_free rfl) ?_ ?_ ?_; rotate_left; (focus (intro v hv; have q1 := (hv.cell (p := ⟨w3.heap.size, 1, none⟩) L3.out).trans R5.out.k4.2.1; have d2 := (hv.cell (p := ⟨g, j, none⟩) GL.out).trans D2.out; go_simp; rfl)); go_simp)
  (refine t_read 5 rfl (by kernel_rfl) (by kernel_rfl) (by kernel_rfl) (t_free rfl) ?_ ?_ ?_; rotate_left; (focus (intro v hv; go_simp; rfl)); go_simp)
  (refine t_read 6 rfl (by kernel_rfl) (by kernel_rfl) (by kernel_rfl) (t_free rfl) ?_ ?_ ?_; rotate_left; (focus (intro v hv; go_simp; rfl)); go_simp)
  (refine t_read 7 rfl (by kernel_rfl) (by kernel_rfl) (by kernel_rfl) (t_free rfl) ?_ ?_ ?_; rotate_left; (focus (intro v hv; have q1 := (hv.cell (p := ⟨w3.heap.size, 1, none⟩) L3.out).trans R5.out.k4.2.1; have d2 := (hv.cell (p := ⟨g, j, none⟩) GL.out).trans D2.out; go_simp; rfl)); go_simp)
  (refine t_read 8 rfl (by kernel_rfl) (by kernel_rfl) (by kernel_rfl) (t_free rfl) ?_ ?_ ?_; rotate_left; (focus (intro v hv; go_simp; rfl)); go_simp)
  (refine t_read 9 rfl (by kernel_rfl) (by kernel_rfl) (by kernel_rfl) (t_free rfl) ?_ ?_ ?_; rotate_left; (focus (intro v hv; have q1 := (hv.cell (p := ⟨w3.heap.size, 1, none⟩) L3.out).trans R5.out.k4.2.1; have d2 := (hv.cell (p := ⟨g, j, none⟩) GL.out).trans D2.out; go_simp; rfl)); go_simp)
  (refine t_read 10 rfl (by kernel_rfl) (by kernel_rfl) (by kernel_rfl) (t_free rfl) ?_ ?_ ?_; rotate_left; (focus (intro v hv; go_simp; rfl)); go_simp)
  (refine t_read 11 rfl (by kernel_rfl) (by kernel_rfl) (by kernel_rfl) (t_free rfl) ?_ ?_ ?_; rotate_left; (focus (intro v hv; go_simp; rfl)); go_simp)
  (refine t_last 12 rfl (by kernel_rfl) rfl (by kernel_rfl) (by kernel_rfl) ?_; intro K hK)
  refine store_byte rfl _ _ rfl w.heap.size g j bl bc2 yb (F5.out.kept D5.out) HJ.out (yv ^^^ UInt8.ofNat (bt % 256).toNat) (by go_simp) (by go_simp; rw [IntKind.wrap_u8, HXO.out]; first | done | rfl) ?_
  intro w7 hfr hu
  have F7 := Lib.hid hfr
  have NG := Lib.hid (show g ≠ w3.heap.size from Nat.ne_of_lt (F3.out.blt rfl))
  have R7 := Lib.hid ((R5.out.below D5.out L3.out).upd hu (Ne.symm NG.out))
  have T7 := Lib.hid ((T5.out.kept D5.out).keep fun z e => hu.block z (fun e2 => IsTy.ne (lso_ty (T5.out.kept D5.out) e) (fr_tyb (F5.out.kept D5.out) rfl) (by decide) e2))
  have B7 := Lib.hid ((B5.out.trans (D5.out.mono B5.out.size)).trans (hu.below GE.out))
  have H7 := Lib.hid (H.out.mono B7.out)
  have c0 := H7.out.rp.k2.1
  clear hu hfr
  refine hK _ _ ?_
  go_simp
  go_wp2_with (first
    | (at_builtin; (with_reducible refine append_fi (o := ⟨some 53, _, _, _, _, _⟩) rfl _ _ rfl w7.heap.size (.slice none 0 0) [] ?_ (LsF.nil _ _) (some ⟨b, off, none⟩) n c Y ?_ H7.out.ls (by simp; omega) (Nat.le_refl _) ?_); (focus (first | (go_simp; done) | (go_simp; rfl))); (focus (first | (go_simp; done) | (go_simp; rfl))); intro v8 w8 hN hb2 hg2 hv2; have O8 := Lib.hid (show LsF w8 w7.heap.size v8 Y from hN); have D8 := Lib.hid hb2; have OV := Lib.hid (lso_cells O8.out.own); have OW := Lib.hid (lso_cell O8.out.own); have RQ := Lib.hid (H7.out.mono hb2).rp; clear hN hb2 hg2 hv2 c0)
    | ((with_reducible refine store_cell (o := ⟨none, _, _, _, _, _⟩) rfl _ (.tmp 55) _ rfl q 0 v8 ?_ ?_ OV.out OW.out 68 _ RQ.out size_fis ?_ ?_); (focus go_simp); (focus (first | (go_simp; done) | (go_simp; rfl))); (focus (show 0 < 2; decide)); intro w9 hr hu; have R9 := Lib.hid hr; have U9 := Lib.hid hu; clear hr hu))
  have O9 := Lib.hid (O8.out.upd RQ.out (fun e => IsTy.ne (lso_ty O8.out.own e) RQ.out.ty (by decide) rfl) (by decide) (by decide) U9.out)
  have R79 := Lib.hid (((R7.out.below D8.out R7.out.lt).upd U9.out (fun e => IsTy.ne R7.out.ty H7.out.rp.ty (by decide) e)))
  have F79 := Lib.hid ((F7.out.kept D8.out).keep fun z e => U9.out.block z (fun e2 => IsTy.ne (fr_tyb (F7.out.kept D8.out) e) RQ.out.ty (by decide) e2))
  have T79 := Lib.hid ((T7.out.kept D8.out).keep fun z e => U9.out.block z (fun e2 => IsTy.ne (lso_ty (T7.out.kept D8.out) e) RQ.out.ty (by decide) e2))
  obtain ⟨g8, c8, hv8⟩ : ∃ g8 c8, v8 = .slice (some ⟨g8, 0, none⟩) Y.length c8 := by
    rcases O9.out.own.2 with ⟨-, h1⟩ | ⟨g8, c8, cur, h1, -⟩
    · have := HL.out; omega
    · exact ⟨g8, c8, h1⟩
  rw [HL.out] at hv8
  subst hv8
  have hlk : k < Y.length := by rw [HL.out]; exact hkn
  obtain ⟨z, hzf, hzr, hzc, hzb, hzt⟩ := MK.out _ _ _ _ (yb.set j (yv ^^^ UInt8.ofNat (bt % 256).toNat)) (by rw [List.length_set]; exact HBE.out) F79.out T79.out
  obtain ⟨cur, hrow, hcf, hnew⟩ := LsO.set fiOk O9.out.own k hlk z
  replace hcf : k * 4 + (fiC ys (.slice (some ⟨g, 0, none⟩) bl bc2) yu tv).length ≤ cur.length := hcf
  have hnew2 : ∀ w', Row w' g8 44 (splice cur (k * 4) (fiC ys (.slice (some ⟨g, 0, none⟩) bl bc2) yu tv)) → LsO fiE w' w7.heap.size (.slice (some ⟨g8, 0, none⟩) n c8) (Y.set k z) := fun w' hr => hnew w' (by have e : fiE.cells z = fiC ys (.slice (some ⟨g, 0, none⟩) bl bc2) yu tv := hzc.symm; rw [e]; exact hr)
  have HROW := Lib.hid hrow
  have HCF := Lib.hid hcf
  have HNEW := Lib.hid hnew2
  have ZR := Lib.hid hzr
  have ZF := Lib.hid hzf
  have ZB := Lib.hid hzb
  have ZT := Lib.hid hzt
  have G8 := Lib.hid (show w7.heap.size ≤ g8 from (World.ownsRow.lt O9.out.own g8 rfl).1)
  have G8T := Lib.hid (show IsTy w9 g8 44 from lso_ty O9.out.own rfl)
  have G8N := Lib.hid (show g8 ≠ w3.heap.size from fun e => absurd R7.out.lt (Nat.not_lt.2 (e ▸ G8.out)))
  clear hlk hzf hzr hzc hzb hzt hrow hcf hnew hnew2
  have D9 : Hid (Below w9.heap.size w9 w9.drew) := Lib.hid (Below.refl _ _).drew
  refine region_t (fun v => Below w9.heap.size w9 v) 7 (by kernel_rfl) (by kernel_rfl) (by kernel_rfl) D9.out ?_
  obtain ⟨we, hwe⟩ : ∃ we, w9.drew = we := ⟨_, rfl⟩
  rw [hwe] at D9 ⊢
  clear hwe
  (refine t_read 0 rfl (by kernel_rfl) (by kernel_rfl) (by kernel_rfl) (t_free rfl) ?_ ?_ ?_; rotate_left; (focus (intro v hv; go_simp; rfl)); go_simp)
  (refine t_read 1 rfl (by kernel_rfl) (by kernel_rfl) (by kernel_rfl) (t_free rfl) ?_ ?_ ?_; rotate_left; (focus (intro v hv; go_simp; rfl)); go_simp)
  (refine t_read 2 rfl (by kernel_rfl) (by kernel_rfl) (by kernel_rfl) (t_free rfl) ?_ ?_ ?_; rotate_left; (focus (intro v hv; go_simp; rfl)); go_simp)
  (refine t_read 3 rfl (by kernel_rfl) (by kernel_rfl) (by kernel_rfl) (t_free rfl) ?_ ?_ ?_; rotate_left; (focus (intro v hv; have c9 := (hv.cell (p := ⟨q, 0, none⟩) R9.out.lt).trans R9.out.k2.1; go_simp; rfl)); go_simp)
  (refine t_read 4 rfl (by kernel_rfl) (by kernel_rfl) (by kernel_rfl) (t_free rfl) ?_ ?_ ?_; rotate_left; (focus (intro v hv; go_simp; rfl)); go_simp)
  (refine t_read 5 rfl (by kernel_rfl) (by kernel_rfl) (by kernel_rfl) (t_free rfl) ?_ ?_ ?_; rotate_left; (focus (intro v hv; refine lg_all 44 (.tmp 9) ?_ w3.heap.size ?_ _ _ _ (R79.out.below hv R79.out.lt) Tryz.underlying44 rfl SZ.out; (focus rfl); (focus go_simp))); go_simp)
  (refine t_read 6 rfl (by kernel_rfl) (by kernel_rfl) (by kernel_rfl) (t_free rfl) ?_ ?_ ?_; rotate_left; (focus (intro v hv; go_simp; rfl)); go_simp)
  (refine t_last 7 rfl (by kernel_rfl) rfl (by kernel_rfl) (by kernel_rfl) ?_; intro K hK)
  refine store_prt rfl _ _ _ rfl g8 (k * 4) (fiC ys (.slice (some ⟨g, 0, none⟩) bl bc2) yu tv) (by go_simp) (by go_simp; first | done | rfl) 44 cur (HROW.out.below D9.out HROW.out.lt) SZ.out HCF.out (fi_one _ _ _ _ rfl OT.out) ?_
  intro w10 hr hu
  have N10 := Lib.hid (HNEW.out w10 hr)
  have U10 := Lib.hid hu
  clear hr hu
  refine hK _ _ ?_
  go_simp
  go_wp2_with fail
  go_ret
  have z7 := B7.out.size
  have z8 := D8.out.size
  have z9 : w9.heap.size = w8.heap.size := U9.out.size
  have z10 := D9.out.size
  have z11 : w10.heap.size = we.heap.size := U10.out.size
  have g8g := G8.out
  have g8l := G8T.out.lt
  have fit : ∀ y ∈ Y.set k z, FYr w10 y := fun y hy => by
    have h1 : FYr w9 y := by
      rcases List.mem_or_eq_of_mem_set hy with h1 | rfl
      · exact O9.out.fit y h1
      · exact ZR.out
    exact (h1.mono D9.out).upd (HROW.out.below D9.out HROW.out.lt) (by decide) (by decide) U10.out
  have RQ10 : Row w10 q 68 [.slice (some ⟨g8, 0, none⟩) n c8, .int .i64 most] := (R9.out.below D9.out R9.out.lt).upd U10.out (fun e => IsTy.ne G8T.out R9.out.ty (by decide) e.symm)
  obtain ⟨a', c', e1, X10⟩ := XK.make RQ10 ⟨N10.out, fit⟩ (fun k => T k ∨ (w.heap.size ≤ k ∧ k < w10.heap.size)) (.inl H.out.Tq) (fun k hk => hk.elim (fun h => by have := H.out.lt k h; omega) (·.2)) (fun x hx => by have hx2 : g8 = x := Option.some.inj hx; subst hx2; exact .inr ⟨by omega, by omega⟩)
    (fun y hy b off s e => by
      have hl := ((fit y hy).kb b off s e).lt
      rcases List.mem_or_eq_of_mem_set hy with h1 | rfl
      · exact .inl (H.out.Tb y h1 b off s e)
      · exact .inr ⟨ZB.out b off s e, hl⟩)
    (fun y hy b off s e => by
      have hl := ((fit y hy).kt b off s e).lt
      rcases List.mem_or_eq_of_mem_set hy with h1 | rfl
      · exact .inl (H.out.Tt y h1 b off s e)
      · exact .inr ⟨ZT.out b off s e, hl⟩)
  rw [List.length_set, HL.out] at X10
  have F1 : Ft (fun k => k = q) w w9 := (Ft.of_below (B7.out.trans (D8.out.mono B7.out.size))).on (Ft.of_upd (F := fun k => k = q) U9.out rfl) (fun b hb => .inl hb)
  have F2 : Ft (fun k => k = q) w w10 := (F1.trans (Ft.of_below D9.out)).on (Ft.of_upd (F := fun k => k = g8) U10.out rfl) (fun b hb => .inr (by subst hb; omega))
  refine ⟨one (vbool (by first | (simp; done) | (simp; omega))), a', c', Y.set k z, ?_, X10, F2⟩
  have hy2 : yb[j]?.getD 0 = yv := by rw [← HYV.out]; simp
  rw [List.map_set, ZF.out]
  first | rw [hy2] | rw [HYV.out]
end Go.Proofs.YtkfhppbmnjmnoaaGreatDoor.W

/- LAYER 28 (chunk): the reference's Crash. -/
set_option linter.unusedSimpArgs false
set_option linter.unusedVariables false
namespace Go.Proofs.YtkfhppbmnjmnoaaGreatDoor.W
open Go Go.ChangeShapes Go.WideShapes Go.ChangeAt Go.RowKit
open Go.Proofs.YtkfhppbmnjmnoaaGreatDoor.P (shaL shaL_len)

set_option maxRecDepth 100000 in
set_option maxHeartbeats 16000000 in
theorem xccrash {w : World} {q n c : Nat} {most : Int} {a : Option Addr} {Y : List FY} {T : Nat → Prop} (ka : Option Addr) (kl kc : Nat) (ks : List Int) (h : XK w q most a n c Y T) (hn : n ≤ 524288) (hok : ∀ y ∈ Y, 1 ≤ y.f.b.length ∧ y.f.b.length ≤ 256 ∧ y.f.su ≤ y.f.b.length) (hk : Sl .i64 w ka kl ks) :
    Calls Tryz.prog 41 #[.pointer (some ⟨q, 0, none⟩), .slice ka kl kc] w fun e w' => e = .returned (.tuple #[]) ∧ ∃ a' m c' Z, Z.map (·.f) = crashC ks 0 (Y.map (·.f)) ∧ XK w' q most a' m c' Z (fun k => T k ∨ (w.heap.size ≤ k ∧ k < w'.heap.size)) ∧ Ft (fun k => k = q) w w' := by
  have H := Lib.hid h
  have HL := Lib.hid h.ls.hlen
  have SZ := Lib.hid file_size
  have FZ := Lib.hid file_zero
  have HOK := Lib.hid hok
  have HK := Lib.hid hk
  have hkll := Lib.hid hk.1
  have hkm := hk.2.1
  clear h hok hk
  go_enter Tryz.func41, Tryz.ntmps41
  go_wp2_with fail
  go_loopw [4, 5, 6, 7, 8, 9] (fun v x i _ _ _ wr => ∃ (k nx : Nat) (D : List FY), i = .int .i64 (k : Int) ∧ x = .int .i64 (nx : Int) ∧ k ≤ n ∧ nx ≤ k ∧ D.length ≤ k ∧ Hid ((D.map (·.f), nx) = crashN ks 0 ((Y.take k).map (·.f))) ∧ Hid (LsF wr w.heap.size v D) ∧ Hid (∀ d ∈ D, (∀ b off s, d.ba = some ⟨b, off, s⟩ → w.heap.size ≤ b) ∧ (∀ b off s, d.ta = some ⟨b, off, s⟩ → w.heap.size ≤ b)) ∧ Hid (Below w.heap.size w wr)) (fun _ _ i _ _ _ _ => n - (intOf i).toNat)
  case atStart => exact ⟨0, 0, [], rfl, rfl, Nat.zero_le _, Nat.zero_le _, Nat.zero_le _, Lib.hid rfl, Lib.hid (LsF.nil _ _), Lib.hid (by simp), Lib.hid (Below.refl _ _)⟩
  case round =>
    obtain ⟨k, nx, D, rfl, rfl, hk, hnx, hdl, CN, O, AD, B⟩ := hrel
    have c0 := (H.out.mono B.out).rp.k2.1
    by_cases hlt : k < n
    · obtain ⟨b, off, y, rfl, hy, hc, hf⟩ := (H.out.mono B.out).ls.at fiOk (Below.refl _ _) k hlt
      have HCE := Lib.hid (show ∀ j v, y.cells[j]? = some v → wr.cell? ⟨b, off + k * 4 + j, none⟩ = some v from hc)
      have g1 : (0 : Int) ≤ (k : Int) := by omega
      have g2 : (k : Int) < (n : Int) := by omega
      have HTKF := Lib.hid (take_fy Y k y hy)
      have hoky := HOK.out y (List.mem_of_getElem? hy)
      have HCP := Lib.hid (xccopied y wr hf)
      have MK := Lib.hid (fun (base : Nat) (w3 : World) (bv tv : Value) (bb : List UInt8) (su : Nat) (h1b : bb.length ≤ 256) (h2b : su ≤ 256) (h1 : Fr w3 base bv bb) (h2 : LsO intE w3 base tv y.f.t) => fy_made (s := y.f.s) (su := su) h1 h2 hf.rt.hfit hf.s (by omega) (by omega) (by rw [hf.rt.hlen]; exact hf.t1))
      clear hc hf hy
      obtain ⟨⟨ys, yb, yu, yt⟩, ba, bn, bc, ta, tn, tc⟩ := y
      dsimp only at HCE HCP MK HTKF hoky
      replace HCE : Hid (∀ j v, (fiC ys (.slice ba bn bc) yu (.slice ta tn tc))[j]? = some v → wr.cell? ⟨b, off + k * 4 + j, none⟩ = some v) := HCE
      obtain ⟨bl, hbe⟩ : ∃ bl, yb.length = bl := ⟨_, rfl⟩
      have HBE := Lib.hid hbe
      rw [hbe] at hoky
      obtain ⟨hb1, hb2, hsu⟩ := hoky
      have hst := stay_le ks nx ((bl : Int) - yu) (by omega)
      obtain ⟨sv, hsv⟩ : ∃ sv, stayV ks nx ((bl : Int) - yu) = sv := ⟨_, rfl⟩
      obtain ⟨lb, hlbe⟩ : ∃ lb : Nat, leftB ks nx ⟨ys, yb, yu, yt⟩ = lb := ⟨_, rfl⟩
      have hlbs : lb = yu + sv.toNat := by rw [← hlbe, ← hsv]; unfold leftB; rw [hbe]
      rw [hsv] at hst
      have hlb : lb ≤ bl := by omega
      have HLE := Lib.hid hlbe
      have HSV := Lib.hid hsv
      have HIL := Lib.hid (show isLoose ⟨ys, yb, yu, yt⟩ = decide (yu < bl) by unfold isLoose; rw [hbe])
      clear hbe hlbe hsv
      by_cases hlo : yu < bl
      · have HLT := Lib.hid (show isLoose ⟨ys, yb, yu, yt⟩ = true by rw [HIL.out]; simpa using hlo)
        have g3 : (0 : Int) < (bl : Int) - (yu : Int) := by omega
        by_cases hkz : kl = 0
        · have hsz : sv = 0 := by rw [← HSV.out]; unfold stayV; rw [if_pos (by have := hkll.out; omega)]
          have hly : lb = yu := by omega
          subst hly
          have HTN := Lib.hid (show ((lb : Int)).toNat = lb by simp)
          subst hkz
          clear hlbs hsz hst
          by_cases hz : lb = 0
          · have HG := Lib.hid (crashN_gone (ks := ks) (nx := nx) (g := ⟨ys, yb, lb, yt⟩) [] HLT.out (HLE.out.trans hz))
            subst hz
            go_wp2_with (first
          | ((with_reducible refine load_cells (o := ⟨some 25, _, _, _, _, _⟩) rfl _ _ rfl b (off + k * 4) ?_ (fiC ys (.slice ba bn bc) 0 (.slice ta tn tc)) _ HCE.out Tryz.underlying44 ?_ ?_ ?_); (focus go_simp); (focus rfl); (focus (exact SZ.out)))
          | (go_at_call 49; (with_reducible refine HCP.out.mono ?_); rintro e w3 ⟨bv, tv, rfl, hf, ht, hb⟩; obtain ⟨g, bc2, hbv, hle, hge, hlt2⟩ := hf.pos (fun e => by have := HBE.out; rw [e] at this; simp at this; omega); rw [HBE.out] at hbv hle; subst hbv; have F3 := Lib.hid hf; have T3 := Lib.hid ht; have B3 := Lib.hid (B.out.trans (hb.mono B.out.size)); have O3 := Lib.hid (O.out.kept hb); have GE := Lib.hid hge; have hqc : 0 ≤ bc2 := (by omega); have OT := Lib.hid (lso_cell ht); clear hf ht hb hge hlt2 c0)
          | ((with_reducible refine alloc_row (o := ⟨some 7, _, _, _, _, _⟩) rfl _ rfl _ FZ.out ?_); intro w4 hr hb hz; have R4 := Lib.hid hr; have F4 := Lib.hid (F3.out.kept hb); have T4 := Lib.hid (T3.out.kept hb); have B4 := Lib.hid (B3.out.trans (hb.mono B3.out.size)); have O4 := Lib.hid (O3.out.kept hb); clear hr hb hz)
          | ((with_reducible refine store_row (o := ⟨none, _, _, _, _, _⟩) rfl _ (.tmp 7) _ rfl w3.heap.size (fiC ys (.slice (some ⟨g, 0, none⟩) bl bc2) 0 tv) ?_ ?_ 44 _ R4.out ?_ ?_ ?_ ?_); (focus go_simp); (focus (first | (go_simp; done) | (go_simp; rfl))); (focus (exact SZ.out)); (focus rfl); (focus (exact fi_one _ _ _ _ rfl OT.out)); intro w5 hr hu; have R5 := Lib.hid hr; have F5 := Lib.hid (F4.out.keep fun z e => hu.block z (Nat.ne_of_lt (F3.out.blt e))); have T5 := Lib.hid (T4.out.keep fun z e => hu.block z (Nat.ne_of_lt (T3.out.blt e))); have B5 := Lib.hid (B4.out.trans (hu.below B3.out.size)); have O5 := Lib.hid (O4.out.upd R4.out (fun e => absurd (O3.out.own.blt e) (Nat.lt_irrefl _)) (by decide) (by decide) hu); have q1 := hr.k4.2.1; have q2 := hr.k4.2.2.1; clear hr hu)
          | ((with_reducible refine store_cell (o := ⟨none, _, _, _, _, _⟩) rfl _ (.tmp 57) _ rfl w3.heap.size 1 (.slice (some ⟨g, 0, none⟩) 0 bc2) ?_ ?_ rfl rfl 44 _ R5.out size_bs ?_ ?_); (focus go_simp); (focus (first | (go_simp; done) | (go_simp; rfl) | (go_simp; rw [HTN.out]))); (focus (show 1 < 4; decide)); intro w6 hr hu; have R6 := Lib.hid (show Row w6 w3.heap.size 44 (fiC ys (.slice (some ⟨g, 0, none⟩) 0 bc2) 0 tv) from hr); have F6 := Lib.hid (F5.out.keep fun z e => hu.block z (Nat.ne_of_lt (F3.out.blt e))); have T6 := Lib.hid (T5.out.keep fun z e => hu.block z (Nat.ne_of_lt (T3.out.blt e))); have B6 := Lib.hid (B5.out.trans (hu.below B3.out.size)); have O6 := Lib.hid (O5.out.upd R5.out (fun e => absurd (O3.out.own.blt e) (Nat.lt_irrefl _)) (by decide) (by decide) hu); clear q1 q2; have q1 := R6.out.k4.2.1; clear hr hu)
          | ((with_reducible refine store_cell (o := ⟨none, _, _, _, _, _⟩) rfl _ (.tmp 61) _ rfl w3.heap.size 2 (.int .i64 ((0 : Nat) : Int)) ?_ ?_ rfl rfl 44 _ R6.out size_int ?_ ?_); (focus go_simp); (focus (first | (go_simp; done) | (go_simp; rfl))); (focus (show 2 < 4; decide)); intro w7 hr hu; have R7 := Lib.hid (show Row w7 w3.heap.size 44 (fiC ys (.slice (some ⟨g, 0, none⟩) 0 bc2) 0 tv) from hr); have F7 := Lib.hid (F6.out.keep fun z e => hu.block z (Nat.ne_of_lt (F3.out.blt e))); have T7 := Lib.hid (T6.out.keep fun z e => hu.block z (Nat.ne_of_lt (T3.out.blt e))); have B7 := Lib.hid (B6.out.trans (hu.below B3.out.size)); have O7 := Lib.hid (O6.out.upd R6.out (fun e => absurd (O3.out.own.blt e) (Nat.lt_irrefl _)) (by decide) (by decide) hu); clear q1; have q1 := R7.out.k4.2.1; clear hr hu))
            go_roundw
            case rel => exact ⟨k + 1, nx + 1, D, vint (by omega), vint (by omega), by omega, by omega, by omega, Lib.hid (by rw [HTKF.out, crashN_app, ← CN.out, HG.out, crashN, List.append_nil]), O7, AD, B7⟩
            case measure => simp [intOf]; omega
          · have HG := Lib.hid (crashN_cut (ks := ks) (nx := nx) (g := ⟨ys, yb, lb, yt⟩) [] HLT.out (by rw [HLE.out]; exact hz))
            rw [HLE.out] at HG
            have g4 : (0 : Int) < (lb : Int) := by omega
            go_wp2_with (first
          | ((with_reducible refine load_cells (o := ⟨some 25, _, _, _, _, _⟩) rfl _ _ rfl b (off + k * 4) ?_ (fiC ys (.slice ba bn bc) lb (.slice ta tn tc)) _ HCE.out Tryz.underlying44 ?_ ?_ ?_); (focus go_simp); (focus rfl); (focus (exact SZ.out)))
          | (go_at_call 49; (with_reducible refine HCP.out.mono ?_); rintro e w3 ⟨bv, tv, rfl, hf, ht, hb⟩; obtain ⟨g, bc2, hbv, hle, hge, hlt2⟩ := hf.pos (fun e => by have := HBE.out; rw [e] at this; simp at this; omega); rw [HBE.out] at hbv hle; subst hbv; have F3 := Lib.hid hf; have T3 := Lib.hid ht; have B3 := Lib.hid (B.out.trans (hb.mono B.out.size)); have O3 := Lib.hid (O.out.kept hb); have GE := Lib.hid hge; have hqc : lb ≤ bc2 := (by omega); have OT := Lib.hid (lso_cell ht); clear hf ht hb hge hlt2 c0)
          | ((with_reducible refine alloc_row (o := ⟨some 7, _, _, _, _, _⟩) rfl _ rfl _ FZ.out ?_); intro w4 hr hb hz; have R4 := Lib.hid hr; have F4 := Lib.hid (F3.out.kept hb); have T4 := Lib.hid (T3.out.kept hb); have B4 := Lib.hid (B3.out.trans (hb.mono B3.out.size)); have O4 := Lib.hid (O3.out.kept hb); clear hr hb hz)
          | ((with_reducible refine store_row (o := ⟨none, _, _, _, _, _⟩) rfl _ (.tmp 7) _ rfl w3.heap.size (fiC ys (.slice (some ⟨g, 0, none⟩) bl bc2) lb tv) ?_ ?_ 44 _ R4.out ?_ ?_ ?_ ?_); (focus go_simp); (focus (first | (go_simp; done) | (go_simp; rfl))); (focus (exact SZ.out)); (focus rfl); (focus (exact fi_one _ _ _ _ rfl OT.out)); intro w5 hr hu; have R5 := Lib.hid hr; have F5 := Lib.hid (F4.out.keep fun z e => hu.block z (Nat.ne_of_lt (F3.out.blt e))); have T5 := Lib.hid (T4.out.keep fun z e => hu.block z (Nat.ne_of_lt (T3.out.blt e))); have B5 := Lib.hid (B4.out.trans (hu.below B3.out.size)); have O5 := Lib.hid (O4.out.upd R4.out (fun e => absurd (O3.out.own.blt e) (Nat.lt_irrefl _)) (by decide) (by decide) hu); have q1 := hr.k4.2.1; have q2 := hr.k4.2.2.1; clear hr hu)
          | ((with_reducible refine store_cell (o := ⟨none, _, _, _, _, _⟩) rfl _ (.tmp 57) _ rfl w3.heap.size 1 (.slice (some ⟨g, 0, none⟩) lb bc2) ?_ ?_ rfl rfl 44 _ R5.out size_bs ?_ ?_); (focus go_simp); (focus (first | (go_simp; done) | (go_simp; rfl) | (go_simp; rw [HTN.out]))); (focus (show 1 < 4; decide)); intro w6 hr hu; have R6 := Lib.hid (show Row w6 w3.heap.size 44 (fiC ys (.slice (some ⟨g, 0, none⟩) lb bc2) lb tv) from hr); have F6 := Lib.hid (F5.out.keep fun z e => hu.block z (Nat.ne_of_lt (F3.out.blt e))); have T6 := Lib.hid (T5.out.keep fun z e => hu.block z (Nat.ne_of_lt (T3.out.blt e))); have B6 := Lib.hid (B5.out.trans (hu.below B3.out.size)); have O6 := Lib.hid (O5.out.upd R5.out (fun e => absurd (O3.out.own.blt e) (Nat.lt_irrefl _)) (by decide) (by decide) hu); clear q1 q2; have q1 := R6.out.k4.2.1; clear hr hu)
          | ((with_reducible refine store_cell (o := ⟨none, _, _, _, _, _⟩) rfl _ (.tmp 61) _ rfl w3.heap.size 2 (.int .i64 (lb : Int)) ?_ ?_ rfl rfl 44 _ R6.out size_int ?_ ?_); (focus go_simp); (focus (first | (go_simp; done) | (go_simp; rfl))); (focus (show 2 < 4; decide)); intro w7 hr hu; have R7 := Lib.hid (show Row w7 w3.heap.size 44 (fiC ys (.slice (some ⟨g, 0, none⟩) lb bc2) lb tv) from hr); have F7 := Lib.hid (F6.out.keep fun z e => hu.block z (Nat.ne_of_lt (F3.out.blt e))); have T7 := Lib.hid (T6.out.keep fun z e => hu.block z (Nat.ne_of_lt (T3.out.blt e))); have B7 := Lib.hid (B6.out.trans (hu.below B3.out.size)); have O7 := Lib.hid (O6.out.upd R6.out (fun e => absurd (O3.out.own.blt e) (Nat.lt_irrefl _)) (by decide) (by decide) hu); clear q1; have q1 := R7.out.k4.2.1; clear hr hu)
          | ((with_reducible refine load_row (o := ⟨some 67, _, _, _, _, _⟩) rfl _ _ rfl w3.heap.size ?_ _ (fiC ys (.slice (some ⟨g, 0, none⟩) lb bc2) lb tv) _ R7.out Tryz.underlying44 rfl ?_ ?_); (focus go_simp); (focus (exact SZ.out)); obtain ⟨z, hzf, hzr, hzc, hzb, hzt⟩ := MK.out _ _ _ _ (yb.take lb) lb (by rw [List.length_take]; have := HBE.out; omega) (by omega) (F7.out.cut hlb) T7.out; rw [hzc]; have ZR := Lib.hid hzr; have ZF := Lib.hid hzf; have ZB := Lib.hid hzb; have ZT := Lib.hid hzt; clear hzf hzr hzc hzb hzt)
          | ((with_reducible refine build_ls fiOk fi_fill (o := ⟨some 68, _, _, _, _, _⟩) rfl _ rfl z ?_ ZR.out (by decide) ?_); (focus (first | (go_simp; done) | (go_simp; rfl))); intro w8 hl hb hz; have L8 := Lib.hid hl; have B8 := Lib.hid (B7.out.trans (hb.mono B7.out.size)); have O8 := Lib.hid (O7.out.kept hb); clear hl hb hz)
          | (at_builtin; (with_reducible refine append_fi (o := ⟨some 69, _, _, _, _, _⟩) rfl _ _ rfl w.heap.size _ D ?_ O8.out (some ⟨w7.heap.size, 0, none⟩) 1 1 [z] ?_ L8.out (by omega) B8.out.size ?_); (focus (first | (go_simp; done) | (go_simp; rfl))); (focus (first | (go_simp; done) | (go_simp; rfl))); intro v9 w9 hN hb2 hg2 hv2; have O9 := Lib.hid hN; have B9 := Lib.hid (B8.out.trans hb2); clear hN hb2 hg2 hv2))
            go_roundw
            case rel => exact ⟨k + 1, nx + 1, D ++ [z], vint (by omega), vint (by omega), by omega, by omega, by rw [List.length_append]; simp; omega, Lib.hid (by rw [HTKF.out, crashN_app, ← CN.out, HG.out, List.map_append, List.map_cons, List.map_nil, ZF.out]; first | done | rfl), O9, Lib.hid (fun d hd => by rcases List.mem_append.1 hd with hd | hd; exact AD.out d hd; simp at hd; subst hd; exact ⟨fun b off s e => Nat.le_trans B.out.size (ZB.out b off s e), fun b off s e => Nat.le_trans B.out.size (ZT.out b off s e)⟩), B9⟩
            case measure => simp [intOf]; omega
        · obtain ⟨kb, koff, rfl, hkb, hkc⟩ := HK.out.2.2.2.resolve_left hkz
          have hj : nx % kl < kl := Nat.mod_lt _ (by omega)
          have CK := Lib.hid (show wr.cell? ⟨kb, koff + nx % kl, none⟩ = some (.int .i64 (ks.getD (nx % kl) 0)) from (B.out.cell (p := ⟨kb, koff + nx % kl, none⟩) hkb).trans (hkc (nx % kl) hj))
          have KB := Lib.hid (show kb < wr.heap.size from Nat.lt_of_lt_of_le hkb B.out.size)
          have hsv2 : sv = min (max (ks.getD (nx % kl) 0) 0) ((bl : Int) - yu) := by rw [← HSV.out]; unfold stayV; rw [if_neg (by have := hkll.out; omega), hkll.out]
          have hrem : (nx : Int).tmod (kl : Int) = ((nx % kl : Nat) : Int) := by rw [Int.tmod_eq_emod_of_nonneg (by omega)]; simp
          have hrem2 : (nx : Int) % (kl : Int) = ((nx % kl : Nat) : Int) := by simp
          have hkl0 : ((kl : Int) == 0) = false := by simp; omega
          have g5 : (0 : Int) < (kl : Int) := by omega
          obtain ⟨r, hr⟩ : ∃ r, nx % kl = r := ⟨_, rfl⟩
          rw [hr] at CK hj hrem hrem2 hsv2
          obtain ⟨kv, hkvv⟩ : ∃ kv, ks.getD r 0 = kv := ⟨_, rfl⟩
          rw [hkvv] at CK hsv2
          have g6 : (0 : Int) ≤ (r : Int) := by omega
          have g7 : (r : Int) < (kl : Int) := by omega
          have HTN := Lib.hid (show ((yu : Int) + min (max kv 0) ((bl : Int) - yu)).toNat = lb by omega)
          clear hkvv hkc hr hkb hlbs hsv2 hst
          by_cases hz : lb = 0
          · have HG := Lib.hid (crashN_gone (ks := ks) (nx := nx) (g := ⟨ys, yb, yu, yt⟩) [] HLT.out (HLE.out.trans hz))
            have g4 : ¬ (0 : Int) < (lb : Int) := by omega
            clear hz
            go_wp2_with (first
          | ((with_reducible refine load_cells (o := ⟨some 25, _, _, _, _, _⟩) rfl _ _ rfl b (off + k * 4) ?_ (fiC ys (.slice ba bn bc) yu (.slice ta tn tc)) _ HCE.out Tryz.underlying44 ?_ ?_ ?_); (focus go_simp); (focus rfl); (focus (exact SZ.out)))
          | (go_at_call 49; (with_reducible refine HCP.out.mono ?_); rintro e w3 ⟨bv, tv, rfl, hf, ht, hb⟩; obtain ⟨g, bc2, hbv, hle, hge, hlt2⟩ := hf.pos (fun e => by have := HBE.out; rw [e] at this; simp at this; omega); rw [HBE.out] at hbv hle; subst hbv; have F3 := Lib.hid hf; have T3 := Lib.hid ht; have B3 := Lib.hid (B.out.trans (hb.mono B.out.size)); have B3C := Lib.hid hb; have O3 := Lib.hid (O.out.kept hb); have GE := Lib.hid hge; have hqc : lb ≤ bc2 := (by omega); have OT := Lib.hid (lso_cell ht); clear hf ht hb hge hlt2 c0)
          | ((with_reducible refine alloc_row (o := ⟨some 7, _, _, _, _, _⟩) rfl _ rfl _ FZ.out ?_); intro w4 hr hb hz; have R4 := Lib.hid hr; have F4 := Lib.hid (F3.out.kept hb); have T4 := Lib.hid (T3.out.kept hb); have B4 := Lib.hid (B3.out.trans (hb.mono B3.out.size)); have B4C := Lib.hid (B3C.out.trans (hb.mono B3C.out.size)); have O4 := Lib.hid (O3.out.kept hb); clear hr hb hz)
          | ((with_reducible refine store_row (o := ⟨none, _, _, _, _, _⟩) rfl _ (.tmp 7) _ rfl w3.heap.size (fiC ys (.slice (some ⟨g, 0, none⟩) bl bc2) yu tv) ?_ ?_ 44 _ R4.out ?_ ?_ ?_ ?_); (focus go_simp); (focus (first | (go_simp; done) | (go_simp; rfl))); (focus (exact SZ.out)); (focus rfl); (focus (exact fi_one _ _ _ _ rfl OT.out)); intro w5 hr hu; have R5 := Lib.hid hr; have F5 := Lib.hid (F4.out.keep fun z e => hu.block z (Nat.ne_of_lt (F3.out.blt e))); have T5 := Lib.hid (T4.out.keep fun z e => hu.block z (Nat.ne_of_lt (T3.out.blt e))); have B5 := Lib.hid (B4.out.trans (hu.below B3.out.size)); have B5C := Lib.hid (B4C.out.trans (hu.below B3C.out.size)); have O5 := Lib.hid (O4.out.upd R4.out (fun e => absurd (O3.out.own.blt e) (Nat.lt_irrefl _)) (by decide) (by decide) hu); have q1 := hr.k4.2.1; have q2 := hr.k4.2.2.1; have ck : w5.cell? ⟨kb, koff + r, none⟩ = some (.int .i64 kv) := ((B5C.out).cell (p := ⟨kb, koff + r, none⟩) KB.out).trans CK.out; clear hr hu)
          | ((with_reducible refine store_cell (o := ⟨none, _, _, _, _, _⟩) rfl _ (.tmp 57) _ rfl w3.heap.size 1 (.slice (some ⟨g, 0, none⟩) lb bc2) ?_ ?_ rfl rfl 44 _ R5.out size_bs ?_ ?_); (focus go_simp); (focus (first | (go_simp; done) | (go_simp; rfl) | (go_simp; rw [HTN.out]))); (focus (show 1 < 4; decide)); intro w6 hr hu; have R6 := Lib.hid (show Row w6 w3.heap.size 44 (fiC ys (.slice (some ⟨g, 0, none⟩) lb bc2) yu tv) from hr); have F6 := Lib.hid (F5.out.keep fun z e => hu.block z (Nat.ne_of_lt (F3.out.blt e))); have T6 := Lib.hid (T5.out.keep fun z e => hu.block z (Nat.ne_of_lt (T3.out.blt e))); have B6 := Lib.hid (B5.out.trans (hu.below B3.out.size)); have O6 := Lib.hid (O5.out.upd R5.out (fun e => absurd (O3.out.own.blt e) (Nat.lt_irrefl _)) (by decide) (by decide) hu); clear q1 q2; have q1 := R6.out.k4.2.1; clear hr hu)
          | ((with_reducible refine store_cell (o := ⟨none, _, _, _, _, _⟩) rfl _ (.tmp 61) _ rfl w3.heap.size 2 (.int .i64 (lb : Int)) ?_ ?_ rfl rfl 44 _ R6.out size_int ?_ ?_); (focus go_simp); (focus (first | (go_simp; done) | (go_simp; rfl))); (focus (show 2 < 4; decide)); intro w7 hr hu; have R7 := Lib.hid (show Row w7 w3.heap.size 44 (fiC ys (.slice (some ⟨g, 0, none⟩) lb bc2) lb tv) from hr); have F7 := Lib.hid (F6.out.keep fun z e => hu.block z (Nat.ne_of_lt (F3.out.blt e))); have T7 := Lib.hid (T6.out.keep fun z e => hu.block z (Nat.ne_of_lt (T3.out.blt e))); have B7 := Lib.hid (B6.out.trans (hu.below B3.out.size)); have O7 := Lib.hid (O6.out.upd R6.out (fun e => absurd (O3.out.own.blt e) (Nat.lt_irrefl _)) (by decide) (by decide) hu); clear q1; have q1 := R7.out.k4.2.1; clear hr hu))
            go_roundw
            case rel => exact ⟨k + 1, nx + 1, D, vint (by omega), vint (by omega), by omega, by omega, by omega, Lib.hid (by rw [HTKF.out, crashN_app, ← CN.out, HG.out, crashN, List.append_nil]), O7, AD, B7⟩
            case measure => simp [intOf]; omega
          · have HG := Lib.hid (crashN_cut (ks := ks) (nx := nx) (g := ⟨ys, yb, yu, yt⟩) [] HLT.out (by rw [HLE.out]; exact hz))
            rw [HLE.out] at HG
            have g4 : (0 : Int) < (lb : Int) := by omega
            go_wp2_with (first
          | ((with_reducible refine load_cells (o := ⟨some 25, _, _, _, _, _⟩) rfl _ _ rfl b (off + k * 4) ?_ (fiC ys (.slice ba bn bc) yu (.slice ta tn tc)) _ HCE.out Tryz.underlying44 ?_ ?_ ?_); (focus go_simp); (focus rfl); (focus (exact SZ.out)))
          | (go_at_call 49; (with_reducible refine HCP.out.mono ?_); rintro e w3 ⟨bv, tv, rfl, hf, ht, hb⟩; obtain ⟨g, bc2, hbv, hle, hge, hlt2⟩ := hf.pos (fun e => by have := HBE.out; rw [e] at this; simp at this; omega); rw [HBE.out] at hbv hle; subst hbv; have F3 := Lib.hid hf; have T3 := Lib.hid ht; have B3 := Lib.hid (B.out.trans (hb.mono B.out.size)); have B3C := Lib.hid hb; have O3 := Lib.hid (O.out.kept hb); have GE := Lib.hid hge; have hqc : lb ≤ bc2 := (by omega); have OT := Lib.hid (lso_cell ht); clear hf ht hb hge hlt2 c0)
          | ((with_reducible refine alloc_row (o := ⟨some 7, _, _, _, _, _⟩) rfl _ rfl _ FZ.out ?_); intro w4 hr hb hz; have R4 := Lib.hid hr; have F4 := Lib.hid (F3.out.kept hb); have T4 := Lib.hid (T3.out.kept hb); have B4 := Lib.hid (B3.out.trans (hb.mono B3.out.size)); have B4C := Lib.hid (B3C.out.trans (hb.mono B3C.out.size)); have O4 := Lib.hid (O3.out.kept hb); clear hr hb hz)
          | ((with_reducible refine store_row (o := ⟨none, _, _, _, _, _⟩) rfl _ (.tmp 7) _ rfl w3.heap.size (fiC ys (.slice (some ⟨g, 0, none⟩) bl bc2) yu tv) ?_ ?_ 44 _ R4.out ?_ ?_ ?_ ?_); (focus go_simp); (focus (first | (go_simp; done) | (go_simp; rfl))); (focus (exact SZ.out)); (focus rfl); (focus (exact fi_one _ _ _ _ rfl OT.out)); intro w5 hr hu; have R5 := Lib.hid hr; have F5 := Lib.hid (F4.out.keep fun z e => hu.block z (Nat.ne_of_lt (F3.out.blt e))); have T5 := Lib.hid (T4.out.keep fun z e => hu.block z (Nat.ne_of_lt (T3.out.blt e))); have B5 := Lib.hid (B4.out.trans (hu.below B3.out.size)); have B5C := Lib.hid (B4C.out.trans (hu.below B3C.out.size)); have O5 := Lib.hid (O4.out.upd R4.out (fun e => absurd (O3.out.own.blt e) (Nat.lt_irrefl _)) (by decide) (by decide) hu); have q1 := hr.k4.2.1; have q2 := hr.k4.2.2.1; have ck : w5.cell? ⟨kb, koff + r, none⟩ = some (.int .i64 kv) := ((B5C.out).cell (p := ⟨kb, koff + r, none⟩) KB.out).trans CK.out; clear hr hu)
          | ((with_reducible refine store_cell (o := ⟨none, _, _, _, _, _⟩) rfl _ (.tmp 57) _ rfl w3.heap.size 1 (.slice (some ⟨g, 0, none⟩) lb bc2) ?_ ?_ rfl rfl 44 _ R5.out size_bs ?_ ?_); (focus go_simp); (focus (first | (go_simp; done) | (go_simp; rfl) | (go_simp; rw [HTN.out]))); (focus (show 1 < 4; decide)); intro w6 hr hu; have R6 := Lib.hid (show Row w6 w3.heap.size 44 (fiC ys (.slice (some ⟨g, 0, none⟩) lb bc2) yu tv) from hr); have F6 := Lib.hid (F5.out.keep fun z e => hu.block z (Nat.ne_of_lt (F3.out.blt e))); have T6 := Lib.hid (T5.out.keep fun z e => hu.block z (Nat.ne_of_lt (T3.out.blt e))); have B6 := Lib.hid (B5.out.trans (hu.below B3.out.size)); have O6 := Lib.hid (O5.out.upd R5.out (fun e => absurd (O3.out.own.blt e) (Nat.lt_irrefl _)) (by decide) (by decide) hu); clear q1 q2; have q1 := R6.out.k4.2.1; clear hr hu)
          | ((with_reducible refine store_cell (o := ⟨none, _, _, _, _, _⟩) rfl _ (.tmp 61) _ rfl w3.heap.size 2 (.int .i64 (lb : Int)) ?_ ?_ rfl rfl 44 _ R6.out size_int ?_ ?_); (focus go_simp); (focus (first | (go_simp; done) | (go_simp; rfl))); (focus (show 2 < 4; decide)); intro w7 hr hu; have R7 := Lib.hid (show Row w7 w3.heap.size 44 (fiC ys (.slice (some ⟨g, 0, none⟩) lb bc2) lb tv) from hr); have F7 := Lib.hid (F6.out.keep fun z e => hu.block z (Nat.ne_of_lt (F3.out.blt e))); have T7 := Lib.hid (T6.out.keep fun z e => hu.block z (Nat.ne_of_lt (T3.out.blt e))); have B7 := Lib.hid (B6.out.trans (hu.below B3.out.size)); have O7 := Lib.hid (O6.out.upd R6.out (fun e => absurd (O3.out.own.blt e) (Nat.lt_irrefl _)) (by decide) (by decide) hu); clear q1; have q1 := R7.out.k4.2.1; clear hr hu)
          | ((with_reducible refine load_row (o := ⟨some 67, _, _, _, _, _⟩) rfl _ _ rfl w3.heap.size ?_ _ (fiC ys (.slice (some ⟨g, 0, none⟩) lb bc2) lb tv) _ R7.out Tryz.underlying44 rfl ?_ ?_); (focus go_simp); (focus (exact SZ.out)); obtain ⟨z, hzf, hzr, hzc, hzb, hzt⟩ := MK.out _ _ _ _ (yb.take lb) lb (by rw [List.length_take]; have := HBE.out; omega) (by omega) (F7.out.cut hlb) T7.out; rw [hzc]; have ZR := Lib.hid hzr; have ZF := Lib.hid hzf; have ZB := Lib.hid hzb; have ZT := Lib.hid hzt; clear hzf hzr hzc hzb hzt)
          | ((with_reducible refine build_ls fiOk fi_fill (o := ⟨some 68, _, _, _, _, _⟩) rfl _ rfl z ?_ ZR.out (by decide) ?_); (focus (first | (go_simp; done) | (go_simp; rfl))); intro w8 hl hb hz; have L8 := Lib.hid hl; have B8 := Lib.hid (B7.out.trans (hb.mono B7.out.size)); have O8 := Lib.hid (O7.out.kept hb); clear hl hb hz)
          | (at_builtin; (with_reducible refine append_fi (o := ⟨some 69, _, _, _, _, _⟩) rfl _ _ rfl w.heap.size _ D ?_ O8.out (some ⟨w7.heap.size, 0, none⟩) 1 1 [z] ?_ L8.out (by omega) B8.out.size ?_); (focus (first | (go_simp; done) | (go_simp; rfl))); (focus (first | (go_simp; done) | (go_simp; rfl))); intro v9 w9 hN hb2 hg2 hv2; have O9 := Lib.hid hN; have B9 := Lib.hid (B8.out.trans hb2); clear hN hb2 hg2 hv2))
            go_roundw
            case rel => exact ⟨k + 1, nx + 1, D ++ [z], vint (by omega), vint (by omega), by omega, by omega, by rw [List.length_append]; simp; omega, Lib.hid (by rw [HTKF.out, crashN_app, ← CN.out, HG.out, List.map_append, List.map_cons, List.map_nil, ZF.out]; first | done | rfl), O9, Lib.hid (fun d hd => by rcases List.mem_append.1 hd with hd | hd; exact AD.out d hd; simp at hd; subst hd; exact ⟨fun b off s e => Nat.le_trans B.out.size (ZB.out b off s e), fun b off s e => Nat.le_trans B.out.size (ZT.out b off s e)⟩), B9⟩
            case measure => simp [intOf]; omega
      · obtain rfl : bl = yu := by omega
        have HG := Lib.hid (crashN_sure (ks := ks) (nx := nx) (g := ⟨ys, yb, bl, yt⟩) [] (by rw [HIL.out]; simp))
        have g4 : (0 : Int) < (bl : Int) := by omega
        clear hlbs hst hlo
        go_wp2_with (first
          | ((with_reducible refine load_cells (o := ⟨some 25, _, _, _, _, _⟩) rfl _ _ rfl b (off + k * 4) ?_ (fiC ys (.slice ba bn bc) bl (.slice ta tn tc)) _ HCE.out Tryz.underlying44 ?_ ?_ ?_); (focus go_simp); (focus rfl); (focus (exact SZ.out)))
          | (go_at_call 49; (with_reducible refine HCP.out.mono ?_); rintro e w3 ⟨bv, tv, rfl, hf, ht, hb⟩; obtain ⟨g, bc2, hbv, hle, hge, hlt2⟩ := hf.pos (fun e => by have := HBE.out; rw [e] at this; simp at this; omega); rw [HBE.out] at hbv hle; subst hbv; have F3 := Lib.hid hf; have T3 := Lib.hid ht; have B3 := Lib.hid (B.out.trans (hb.mono B.out.size)); have O3 := Lib.hid (O.out.kept hb); have GE := Lib.hid hge; have OT := Lib.hid (lso_cell ht); clear hf ht hb hge hlt2 c0)
          | ((with_reducible refine alloc_row (o := ⟨some 7, _, _, _, _, _⟩) rfl _ rfl _ FZ.out ?_); intro w4 hr hb hz; have R4 := Lib.hid hr; have F4 := Lib.hid (F3.out.kept hb); have T4 := Lib.hid (T3.out.kept hb); have B4 := Lib.hid (B3.out.trans (hb.mono B3.out.size)); have O4 := Lib.hid (O3.out.kept hb); clear hr hb hz)
          | ((with_reducible refine store_row (o := ⟨none, _, _, _, _, _⟩) rfl _ (.tmp 7) _ rfl w3.heap.size (fiC ys (.slice (some ⟨g, 0, none⟩) bl bc2) bl tv) ?_ ?_ 44 _ R4.out ?_ ?_ ?_ ?_); (focus go_simp); (focus (first | (go_simp; done) | (go_simp; rfl))); (focus (exact SZ.out)); (focus rfl); (focus (exact fi_one _ _ _ _ rfl OT.out)); intro w5 hr hu; have R5 := Lib.hid hr; have F5 := Lib.hid (F4.out.keep fun z e => hu.block z (Nat.ne_of_lt (F3.out.blt e))); have T5 := Lib.hid (T4.out.keep fun z e => hu.block z (Nat.ne_of_lt (T3.out.blt e))); have B5 := Lib.hid (B4.out.trans (hu.below B3.out.size)); have O5 := Lib.hid (O4.out.upd R4.out (fun e => absurd (O3.out.own.blt e) (Nat.lt_irrefl _)) (by decide) (by decide) hu); have q1 := hr.k4.2.1; have q2 := hr.k4.2.2.1; clear hr hu)
          | ((with_reducible refine load_row (o := ⟨some 67, _, _, _, _, _⟩) rfl _ _ rfl w3.heap.size ?_ _ (fiC ys (.slice (some ⟨g, 0, none⟩) bl bc2) bl tv) _ R5.out Tryz.underlying44 rfl ?_ ?_); (focus go_simp); (focus (exact SZ.out)); obtain ⟨z, hzf, hzr, hzc, hzb, hzt⟩ := MK.out _ _ _ _ yb bl (by have := HBE.out; omega) (by omega) F5.out T5.out; rw [hzc]; have ZR := Lib.hid hzr; have ZF := Lib.hid hzf; have ZB := Lib.hid hzb; have ZT := Lib.hid hzt; clear hzf hzr hzc hzb hzt)
          | ((with_reducible refine build_ls fiOk fi_fill (o := ⟨some 68, _, _, _, _, _⟩) rfl _ rfl z ?_ ZR.out (by decide) ?_); (focus (first | (go_simp; done) | (go_simp; rfl))); intro w8 hl hb hz; have L8 := Lib.hid hl; have B8 := Lib.hid (B5.out.trans (hb.mono B5.out.size)); have O8 := Lib.hid (O5.out.kept hb); clear hl hb hz)
          | (at_builtin; (with_reducible refine append_fi (o := ⟨some 69, _, _, _, _, _⟩) rfl _ _ rfl w.heap.size _ D ?_ O8.out (some ⟨w5.heap.size, 0, none⟩) 1 1 [z] ?_ L8.out (by omega) B8.out.size ?_); (focus (first | (go_simp; done) | (go_simp; rfl))); (focus (first | (go_simp; done) | (go_simp; rfl))); intro v9 w9 hN hb2 hg2 hv2; have O9 := Lib.hid hN; have B9 := Lib.hid (B8.out.trans hb2); clear hN hb2 hg2 hv2))
        go_roundw
        case rel => exact ⟨k + 1, nx, D ++ [z], vint (by omega), vint (by omega), by omega, by omega, by rw [List.length_append]; simp; omega, Lib.hid (by rw [HTKF.out, crashN_app, ← CN.out, HG.out, List.map_append, List.map_cons, List.map_nil, ZF.out]; first | done | rfl), O9, Lib.hid (fun d hd => by rcases List.mem_append.1 hd with hd | hd; exact AD.out d hd; simp at hd; subst hd; exact ⟨fun b off s e => Nat.le_trans B.out.size (ZB.out b off s e), fun b off s e => Nat.le_trans B.out.size (ZT.out b off s e)⟩), B9⟩
        case measure => simp [intOf]; omega
    · obtain rfl : n = k := by omega
      have OV := Lib.hid (lso_cells O.out.own)
      have OW := Lib.hid (lso_cell O.out.own)
      have RQ := Lib.hid (H.out.mono B.out).rp
      go_wp2_with ((with_reducible refine store_cell (o := ⟨none, _, _, _, _, _⟩) rfl _ (.tmp 73) _ rfl q 0 _ ?_ ?_ OV.out OW.out 68 _ RQ.out size_fis ?_ ?_); (focus go_simp); (focus (first | (go_simp; done) | (go_simp; rfl))); (focus (show 0 < 2; decide)); intro w7 hr hu; have R7 := Lib.hid hr; have U7 := Lib.hid hu; clear hr hu)
      first | go_end0 | (refine bodyPost_ret (results_none rfl _ _ _) rfl ?_)
      have E := H.out.mono B.out
      obtain ⟨a', c', -, X7⟩ := E.relist O.out U7.out R7.out (fun k => T k ∨ (w.heap.size ≤ k ∧ k < wr.heap.size)) (fun k h => .inl h) (fun k h => h.elim (E.lt k) (·.2)) (fun g e => .inr ⟨(World.ownsRow.lt O.out.own g e).1, O.out.own.blt e⟩)
        (fun z hz b off s e => .inr ⟨(AD.out z hz).1 b off s e, ((O.out.fit z hz).kb b off s e).lt⟩) (fun z hz b off s e => .inr ⟨(AD.out z hz).2 b off s e, ((O.out.fit z hz).kt b off s e).lt⟩)
      have e1 : Y.take n = Y := List.take_of_length_le (by rw [HL.out]; exact Nat.le_refl _)
      have e2 := CN.out
      rw [e1] at e2
      refine ⟨rfl, a', D.length, c', D, ?_, ?_, (Ft.of_below B.out).on (Ft.of_upd (F := fun k => k = q) U7.out rfl) (fun b hb => .inl hb)⟩
      · rw [← crashN_eq, ← e2]
      · rw [show w7.heap.size = wr.heap.size from U7.out.size]; exact X7
end Go.Proofs.YtkfhppbmnjmnoaaGreatDoor.W

/- LAYER 28 (chunk): where Put lays a file, plainly; the reference's Put: what it refuses. -/
set_option linter.unusedSimpArgs false
set_option linter.unusedVariables false
namespace Go.Proofs.YtkfhppbmnjmnoaaGreatDoor.W
open Go Go.ChangeShapes Go.WideShapes Go.ChangeAt Go.RowKit
open Go.Proofs.YtkfhppbmnjmnoaaGreatDoor.P (shaL shaL_len)

theorem putL_at {f : Fi} : ∀ {L : List Fi} {k : Nat}, (∀ z ∈ L.take k, ltM z.s f.s = true) → (∀ z, L[k]? = some z → ltM f.s z.s = true) → putL L f = L.take k ++ f :: L.drop k
  | [], k, _, _ => by simp [putL]
  | z :: r, 0, _, h => by
    have := h z rfl
    unfold putL
    rw [if_pos this]; rfl
  | z :: r, k + 1, h1, h2 => by
    have h3 := h1 z (by rw [List.take_succ_cons]; exact List.mem_cons_self ..)
    have ih := putL_at (f := f) (L := r) (k := k) (fun y hy => h1 y (by rw [List.take_succ_cons]; exact List.mem_cons_of_mem _ hy)) (fun y hy => h2 y (by simpa using hy))
    unfold putL
    rw [if_neg (by rw [ltM_asym h3]; decide), if_neg (fun e => by rw [e, ltM_self] at h3; cases h3), ih]; rfl
theorem putL_set {f g : Fi} : ∀ {L : List Fi} {k : Nat}, RisC L → L[k]? = some g → g.s = f.s → putL L f = L.set k f
  | [], _, _, h, _ => by simp at h
  | z :: r, 0, _, h, e => by
    simp at h; subst h
    unfold putL
    rw [if_neg (by rw [← e, ltM_self]; decide), if_pos e.symm]; rfl
  | z :: r, k + 1, hr, h, e => by
    obtain ⟨h1, h2⟩ := List.pairwise_cons.1 hr
    have hk : r[k]? = some g := by simpa using h
    have h4 := h1 g (List.mem_of_getElem? hk)
    rw [e] at h4
    have ih := putL_set (f := f) h2 hk e
    unfold putL
    rw [if_neg (by rw [ltM_asym h4]; decide), if_neg (fun e2 => by rw [e2, ltM_self] at h4; cases h4), ih]; rfl
theorem zwithin (n lo hi : Int) (w : World) : Calls Tryz.prog 69 #[.int .i64 n, .int .i64 lo, .int .i64 hi] w fun e w' => e = .returned (.bool (in64 n lo hi)) ∧ w = w' := by
  by_cases h1 : lo ≤ n
  · by_cases h2 : n ≤ hi
    · have HX := Lib.hid (show in64 n lo hi = true by rw [in64_iff]; omega)
      go_enter Tryz.func69, Tryz.ntmps69
      go_wp2
      go_ret
      exact ⟨one (vbool (by rw [HX.out])), rfl⟩
    · have HX := Lib.hid (show in64 n lo hi = false by rw [Bool.eq_false_iff, Ne, in64_iff]; omega)
      go_enter Tryz.func69, Tryz.ntmps69
      go_wp2
      go_ret
      exact ⟨one (vbool (by rw [HX.out])), rfl⟩
  · have HX := Lib.hid (show in64 n lo hi = false by rw [Bool.eq_false_iff, Ne, in64_iff]; omega)
    go_enter Tryz.func69, Tryz.ntmps69
    go_wp2
    go_ret
    exact ⟨one (vbool (by rw [HX.out])), rfl⟩
set_option maxRecDepth 100000 in
set_option maxHeartbeats 4000000 in
theorem xcput_bad {w : World} {q n c : Nat} {most : Int} {a : Option Addr} {Y : List FY} {T : Nat → Prop} (ba : Option Addr) (bn bc : Nat) (time : Int) (h : XK w q most a n c Y T) (hb : bn < 1 ∨ 256 < bn) (hm : bn ≤ 9223372036854775807) :
    Calls Tryz.prog 37 #[.pointer (some ⟨q, 0, none⟩), .slice ba bn bc, .int .i64 time] w fun e w' => e = .returned (.tuple #[.string ⟨#[]⟩, .int .i64 1]) ∧ w = w' := by
  have HP := Lib.hid (zwithin (bn : Int) 1 256 w)
  rw [show in64 (bn : Int) 1 256 = false by unfold in64; rcases hb with h | h <;> simp <;> omega] at HP
  clear h hb
  go_enter Tryz.func37, Tryz.ntmps37
  go_wp2_with (go_at_call 69; (with_reducible refine HP.out.mono ?_); rintro e w1 ⟨rfl, rfl⟩)
  go_ret2
  exact ⟨rfl, rfl⟩
end Go.Proofs.YtkfhppbmnjmnoaaGreatDoor.W

/- LAYER 28 (chunk): the reference's Put of a new piece that has no room. -/
set_option linter.unusedSimpArgs false
set_option linter.unusedVariables false
namespace Go.Proofs.YtkfhppbmnjmnoaaGreatDoor.W
open Go Go.ChangeShapes Go.WideShapes Go.ChangeAt Go.RowKit
open Go.Proofs.YtkfhppbmnjmnoaaGreatDoor.P (shaL shaL_len)

set_option maxRecDepth 100000 in
set_option maxHeartbeats 8000000 in
theorem xcput_full {w : World} {q n c : Nat} {most : Int} {a : Option Addr} {Y : List FY} {T : Nat → Prop} (ba : Option Addr) (bn bc : Nat) (b : List UInt8) (time : Int) (h : XK w q most a n c Y T) (hn : n ≤ 524288) (h256 : ∀ y ∈ Y, y.f.b.length ≤ 256) (hus : usedC (Y.map (·.f)) ≤ 524288) (hmost : 0 ≤ most ∧ most ≤ 524288)
    (hb : Rd w ba bn bc b) (hb1 : 1 ≤ bn ∧ bn ≤ 256) (hno : findC (sumOf b) (Y.map (·.f)) = none) (hfull : most < (usedC (Y.map (·.f)) : Int) + bn) :
    Calls Tryz.prog 37 #[.pointer (some ⟨q, 0, none⟩), .slice ba bn bc, .int .i64 time] w fun e w' => e = .returned (.tuple #[.string ⟨#[]⟩, .int .i64 7]) ∧ Below w.heap.size w w' := by
  have HP := Lib.hid (fun w => zwithin (bn : Int) 1 256 w)
  rw [show in64 (bn : Int) 1 256 = true by unfold in64; simp; omega] at HP
  have HSU := Lib.hid (rsum_any ba bn bc b w hb (by omega))
  have hat : atI (sumOf b) (Y.map (·.f)) = -1 := by
    rcases at_find (sumOf b) (Y.map (·.f)) with ⟨-, h2⟩ | ⟨k, f, -, h2, -⟩
    · exact h2
    · rw [hno] at h2; cases h2
  have HAT := Lib.hid (fun w' (hw : Below w.heap.size w w') => xcat (sumOf b) (h.mono hw) (by omega))
  rw [hat] at HAT
  have HUS := Lib.hid (fun w' (hw : Below w.heap.size w w') => xcused (h.mono hw) hn h256)
  have H := Lib.hid h
  obtain ⟨U, hU⟩ : ∃ U, usedC (Y.map (·.f)) = U := ⟨_, rfl⟩
  rw [hU] at HUS hus hfull
  obtain ⟨s, hs⟩ : ∃ s, sumOf b = s := ⟨_, rfl⟩
  replace HSU : Hid (Calls Tryz.prog 20 #[.slice ba bn bc] w fun e w' => e = .returned (.string s) ∧ Below w.heap.size w w') := Lib.hid (by rw [← hs]; exact HSU.out)
  rw [hs] at HAT
  have hw1 : IntKind.i64.wrap ((U : Int) + (bn : Int)) = (U : Int) + bn := by rw [IntKind.wrap_i64]; omega
  clear h hb hno hat hU hs h256
  go_enter Tryz.func37, Tryz.ntmps37
  go_wp2_with (first
    | (go_at_call 69; (with_reducible refine (HP.out _).mono ?_); rintro e w1 ⟨rfl, rfl⟩)
    | (go_at_call 20; (with_reducible refine HSU.out.mono ?_); rintro e w2 ⟨rfl, hb⟩; have B2 := Lib.hid hb; clear hb)
    | (go_at_call 70; (with_reducible refine (HAT.out _ B2.out).mono ?_); rintro e w3 ⟨rfl, rfl⟩))
  refine region_h (fun v => Below w2.heap.size w2 v) (by kernel_rfl) (by kernel_rfl) (Below.refl _ _).drew ?_
  have XR := Lib.hid (H.out.mono B2.out)
  (refine h_read 0 rfl (by kernel_rfl) (by kernel_rfl) (h_free rfl) ?_ ?_ ?_; rotate_left; (focus (intro v hv; go_simp; rfl)); go_simp)
  (refine h_read 2 rfl (by kernel_rfl) (by kernel_rfl) (h_free rfl) ?_ ?_ ?_; rotate_left; (focus (intro v hv; go_simp; rfl)); go_simp)
  (refine h_read 3 rfl (by kernel_rfl) (by kernel_rfl) (h_free rfl) ?_ ?_ ?_; rotate_left; (focus (intro v hv; go_simp; rfl)); go_simp)
  (refine h_read 5 rfl (by kernel_rfl) (by kernel_rfl) (h_free rfl) ?_ ?_ ?_; rotate_left; (focus (intro v hv; go_simp; rfl)); go_simp)
  (refine h_read 6 rfl (by kernel_rfl) (by kernel_rfl) (h_free rfl) ?_ ?_ ?_; rotate_left; (focus (intro v hv; go_simp; rfl)); go_simp)
  (refine h_read 7 rfl (by kernel_rfl) (by kernel_rfl) (h_free rfl) ?_ ?_ ?_; rotate_left; (focus (intro v hv; go_simp; rfl)); go_simp)
  (refine h_read 8 rfl (by kernel_rfl) (by kernel_rfl) (h_free rfl) ?_ ?_ ?_; rotate_left; (focus (intro v hv; have c1 := (hv.cell (p := ⟨q, 1, none⟩) XR.out.rp.lt).trans XR.out.rp.k2.2; go_simp; rfl)); go_simp)
  (refine h_call 1 rfl (by kernel_rfl) (h_free rfl) 15 ?_ ?_ ?_; rotate_left; (focus (go_simp; rfl)))
  refine (HUS.out _ (B2.out.drew)).mono ?_
  rintro e w4 ⟨rfl, rfl⟩
  refine ⟨_, rfl, (Below.refl _ _).drew, ?_⟩
  go_simp
  (refine h_read 4 rfl (by kernel_rfl) (by kernel_rfl) (h_free rfl) ?_ ?_ ?_; rotate_left; (focus (intro v hv; go_simp; rfl)); go_simp)
  (refine h_read 9 rfl (by kernel_rfl) (by kernel_rfl) (h_free rfl) ?_ ?_ ?_; rotate_left; (focus (intro v hv; go_simp; rfl)); go_simp)
  refine h_done (by kernel_rfl) ?_
  go_wp2_with fail
  go_ret2
  exact ⟨rfl, B2.out.drew⟩
end Go.Proofs.YtkfhppbmnjmnoaaGreatDoor.W

/- A REGION THAT ENDS WITH A STORE: two operations (no calls) that may come up in either order. -/
set_option linter.unusedSimpArgs false
set_option linter.unusedVariables false
namespace Go.Proofs.YtkfhppbmnjmnoaaGreatDoor.W
open Go Go.ChangeShapes Go.WideShapes Go.ChangeAt Go.RowKit

theorem t_twoL {P : Program} {ops : Array Oper} {Q : Exit → Act → World → Prop} {S : World → Prop} {t : Nat} {a : Act} {w : World} {fuel : Nat} {listed : Array Bool}
    (i j : Nat) {o o' : Oper} (hi : ops[i]? = some o) (hj : ops[j]? = some o') (hr : Region.ready .any ops listed = [i, j]) (hit : (i == t) = false) (hjt : (j == t) = false)
    (h : ∀ K : Exit → Act → World → Prop, (∀ a' w', S w' → WT P ops Q S t fuel (listed.setIfInBounds i true) a' w' → K .normal a' w') → wpList P ops K [o] a w)
    (h' : ∀ K : Exit → Act → World → Prop, (∀ a' w', S w' → WT P ops Q S t fuel (listed.setIfInBounds j true) a' w' → K .normal a' w') → wpList P ops K [o'] a w) : WT P ops Q S t (fuel + 1) listed a w :=
  ⟨fun hQ hs hS ht => by
    have hne : i ≠ t := by simpa using hit
    have hnj : j ≠ t := by simpa using hjt
    refine ⟨fun h0 => (by rw [hr] at h0; cases h0), ?_⟩
    rw [hr]
    intro k hk
    have hk' : k = i ∨ k = j := by simpa using hk
    rcases hk' with rfl | rfl
    · exact wpOp_of_list hi (h _ fun a' w' h1 h2 => ⟨rfl, fun _ => h1, h2.out hQ hs h1 (by rw [getD_set_ne true hne]; exact ht)⟩)
    · exact wpOp_of_list hj (h' _ fun a' w' h1 h2 => ⟨rfl, fun _ => h1, h2.out hQ hs h1 (by rw [getD_set_ne true hnj]; exact ht)⟩)⟩
end Go.Proofs.YtkfhppbmnjmnoaaGreatDoor.W

/- LAYER 28 (chunk): the reference's Put of a new piece that has room. -/
set_option linter.unusedSimpArgs false
set_option linter.unusedVariables false
namespace Go.Proofs.YtkfhppbmnjmnoaaGreatDoor.W
open Go Go.ChangeShapes Go.WideShapes Go.ChangeAt Go.RowKit
open Go.Proofs.YtkfhppbmnjmnoaaGreatDoor.P (shaL shaL_len)

theorem below_none {w w' : World} (h : w.grownBy w' none) : Below w.heap.size w w' := ⟨h.os, h.tape, h.output, h.size, fun k hk => h.block k hk (by simp)⟩
theorem fi_build (s : ByteArray) (ba ta : Option Addr) (bn bc tn tc : Nat) : Tryz.prog.built 44 [(0, .string s), (1, .slice ba bn bc), (3, .slice ta tn tc)] = some (fiC s (.slice ba bn bc) 0 (.slice ta tn tc)).toArray := by kernel_rfl
theorem mem_ins {Y : List FY} {k : Nat} {z y : FY} : y ∈ Y.take k ++ z :: Y.drop k ↔ y = z ∨ y ∈ Y := by
  constructor
  · intro h
    rcases List.mem_append.1 h with h | h
    · exact .inr (List.mem_of_mem_take h)
    · rcases List.mem_cons.1 h with h | h
      · exact .inl h
      · exact .inr (List.mem_of_mem_drop h)
  · rintro (rfl | h)
    · simp
    · rw [← List.take_append_drop k Y] at h
      rcases List.mem_append.1 h with h | h
      · exact List.mem_append.2 (.inl h)
      · exact List.mem_append.2 (.inr (List.mem_cons.2 (.inr h)))
set_option maxRecDepth 100000 in
set_option maxHeartbeats 16000000 in
theorem xcput_new {w : World} {q n c : Nat} {most : Int} {a : Option Addr} {Y : List FY} {T : Nat → Prop} (ba : Option Addr) (bn bc : Nat) (b : List UInt8) (time : Int) (h : XK w q most a n c Y T) (hn : n ≤ 524288) (h256 : ∀ y ∈ Y, y.f.b.length ≤ 256) (hus : usedC (Y.map (·.f)) ≤ 524288) (hmost : 0 ≤ most ∧ most ≤ 524288)
    (hb : Rd w ba bn bc b) (hb1 : 1 ≤ bn ∧ bn ≤ 256) (hno : findC (sumOf b) (Y.map (·.f)) = none) (hroom : ¬ most < (usedC (Y.map (·.f)) : Int) + bn) (htm : SI64 time) :
    Calls Tryz.prog 37 #[.pointer (some ⟨q, 0, none⟩), .slice ba bn bc, .int .i64 time] w fun e w' => e = .returned (.tuple #[.string (sumOf b), .int .i64 0]) ∧ ∃ a' n' c' Z, Z.map (·.f) = putL (Y.map (·.f)) ⟨sumOf b, b, 0, [time]⟩ ∧ XK w' q most a' n' c' Z (fun k => T k ∨ (w.heap.size ≤ k ∧ k < w'.heap.size)) ∧ Ft (fun k => k = q) w w' := by
  have HP := Lib.hid (fun w => zwithin (bn : Int) 1 256 w)
  rw [show in64 (bn : Int) 1 256 = true by unfold in64; simp; omega] at HP
  have HSU := Lib.hid (rsum_any ba bn bc b w hb (by omega))
  have hat : atI (sumOf b) (Y.map (·.f)) = -1 := by
    rcases at_find (sumOf b) (Y.map (·.f)) with ⟨-, h2⟩ | ⟨k, f, -, h2, -⟩
    · exact h2
    · rw [hno] at h2; cases h2
  have hnos : ∀ y ∈ Y, y.f.s ≠ sumOf b := by
    rcases find_or (sumOf b) (Y.map (·.f)) with ⟨-, h2⟩ | ⟨f, h2, -⟩
    · exact fun y hy => h2 y.f (List.mem_map.2 ⟨y, hy, rfl⟩)
    · rw [hno] at h2; cases h2
  have HAT := Lib.hid (fun w' (hw : Below w.heap.size w w') => xcat (sumOf b) (h.mono hw) (by omega))
  rw [hat] at HAT
  have HUS := Lib.hid (fun w' (hw : Below w.heap.size w w') => xcused (h.mono hw) hn h256)
  have H := Lib.hid h
  have HLN := Lib.hid h.ls.hlen
  have hnc := h.ls.hle
  obtain ⟨U, hU⟩ : ∃ U, usedC (Y.map (·.f)) = U := ⟨_, rfl⟩
  rw [hU] at HUS hus hroom
  have ssz : (sumOf b).size ≤ 1000000 := by rw [sumOf_size]; decide
  obtain ⟨s, hs⟩ : ∃ s, sumOf b = s := ⟨_, rfl⟩
  replace HSU : Hid (Calls Tryz.prog 20 #[.slice ba bn bc] w fun e w' => e = .returned (.string s) ∧ Below w.heap.size w w') := Lib.hid (by rw [← hs]; exact HSU.out)
  rw [hs] at HAT hnos ssz ⊢
  have HNOS := Lib.hid hnos
  have hbl := hb.hlen
  have HBL := Lib.hid hbl
  have HB := Lib.hid hb
  have SZ := Lib.hid file_size
  have FZ := Lib.hid file_zero
  have STM := Lib.hid htm
  have SSZ := Lib.hid ssz
  have hw1 : IntKind.i64.wrap ((U : Int) + (bn : Int)) = (U : Int) + bn := by rw [IntKind.wrap_i64]; omega
  clear h hb hno hat hU hs h256 hnos hbl htm ssz
  go_enter Tryz.func37, Tryz.ntmps37
  go_wp2_with (first
    | (go_at_call 69; (with_reducible refine (HP.out _).mono ?_); rintro e w1 ⟨rfl, rfl⟩)
    | (go_at_call 20; (with_reducible refine HSU.out.mono ?_); rintro e w2 ⟨rfl, hb⟩; have B2 := Lib.hid hb; clear hb)
    | (go_at_call 70; (with_reducible refine (HAT.out _ B2.out).mono ?_); rintro e w3 ⟨rfl, rfl⟩))
  refine region_h (fun v => Below w2.heap.size w2 v) (by kernel_rfl) (by kernel_rfl) (Below.refl _ _).drew ?_
  have XR := Lib.hid (H.out.mono B2.out)
  (refine h_read 0 rfl (by kernel_rfl) (by kernel_rfl) (h_free rfl) ?_ ?_ ?_; rotate_left; (focus (intro v hv; go_simp; rfl)); go_simp)
  (refine h_read 2 rfl (by kernel_rfl) (by kernel_rfl) (h_free rfl) ?_ ?_ ?_; rotate_left; (focus (intro v hv; go_simp; rfl)); go_simp)
  (refine h_read 3 rfl (by kernel_rfl) (by kernel_rfl) (h_free rfl) ?_ ?_ ?_; rotate_left; (focus (intro v hv; go_simp; rfl)); go_simp)
  (refine h_read 5 rfl (by kernel_rfl) (by kernel_rfl) (h_free rfl) ?_ ?_ ?_; rotate_left; (focus (intro v hv; go_simp; rfl)); go_simp)
  (refine h_read 6 rfl (by kernel_rfl) (by kernel_rfl) (h_free rfl) ?_ ?_ ?_; rotate_left; (focus (intro v hv; go_simp; rfl)); go_simp)
  (refine h_read 7 rfl (by kernel_rfl) (by kernel_rfl) (h_free rfl) ?_ ?_ ?_; rotate_left; (focus (intro v hv; go_simp; rfl)); go_simp)
  (refine h_read 8 rfl (by kernel_rfl) (by kernel_rfl) (h_free rfl) ?_ ?_ ?_; rotate_left; (focus (intro v hv; have c1 := (hv.cell (p := ⟨q, 1, none⟩) XR.out.rp.lt).trans XR.out.rp.k2.2; go_simp; rfl)); go_simp)
  (refine h_call 1 rfl (by kernel_rfl) (h_free rfl) 15 ?_ ?_ ?_; rotate_left; (focus (go_simp; rfl)))
  refine (HUS.out _ (B2.out.drew)).mono ?_
  rintro e w4 ⟨rfl, rfl⟩
  refine ⟨_, rfl, (Below.refl _ _).drew, ?_⟩
  go_simp
  (refine h_read 4 rfl (by kernel_rfl) (by kernel_rfl) (h_free rfl) ?_ ?_ ?_; rotate_left; (focus (intro v hv; go_simp; rfl)); go_simp)
  (refine h_read 9 rfl (by kernel_rfl) (by kernel_rfl) (h_free rfl) ?_ ?_ ?_; rotate_left; (focus (intro v hv; go_simp; rfl)); go_simp)
  refine h_done (by kernel_rfl) ?_
  have B3 := Lib.hid B2.out.drew
  obtain ⟨w3, hw3⟩ : ∃ x, w2.drew = x := ⟨_, rfl⟩
  rw [hw3] at B3 ⊢
  clear hw3 hw1
  go_wp2_with (first
    | ((with_reducible refine build_row (o := ⟨some 38, _, _, _, _, _⟩) rfl _ _ rfl (fiC s (.slice ba bn bc) 0 (.slice (some ⟨w3.heap.size, 0, none⟩) 1 1)) ?_ ?_); (focus (go_simp; first | exact fi_build _ _ _ _ _ _ _ | rfl)))
    | (go_at_call 49; have HD := xccopied0 s b 0 [time] ba bn bc (some ⟨w3.heap.size, 0, none⟩) 1 1 (w3.alloc (.cells #[.int .i64 time] 3)) (HB.out.mono (B3.out.trans ((Below.refl w3.heap.size w3).alloc (Nat.le_refl _) _ |>.mono B3.out.size))) (by omega) (ls_new intOk w3 time _ rfl STM.out) (by omega); (with_reducible refine HD.mono ?_); clear HD; rintro e w4 ⟨bv, tv, rfl, hf, ht, hb⟩; have B4 := Lib.hid ((B3.out.trans ((Below.refl w3.heap.size w3).alloc (Nat.le_refl _) (.cells #[.int .i64 time] 3) |>.mono B3.out.size)).trans (hb.mono (Nat.le_trans B3.out.size ((Below.refl w3.heap.size w3).alloc (Nat.le_refl _) (.cells #[.int .i64 time] 3)).size))); have F4 := Lib.hid (hf.base (Nat.le_trans B3.out.size ((Below.refl w3.heap.size w3).alloc (Nat.le_refl _) (.cells #[.int .i64 time] 3)).size)); have T4 := Lib.hid (ht.base (Nat.le_trans B3.out.size ((Below.refl w3.heap.size w3).alloc (Nat.le_refl _) (.cells #[.int .i64 time] 3)).size)); have OB := Lib.hid (fr_one hf); have OT := Lib.hid (lso_cell ht); clear hf ht hb)
    | ((with_reducible refine alloc_row (o := ⟨some 10, _, _, _, _, _⟩) rfl _ rfl _ FZ.out ?_); intro w5 hr hb hz; have R5 := Lib.hid hr; have F5 := Lib.hid (F4.out.kept hb); have T5 := Lib.hid (T4.out.kept hb); have B5 := Lib.hid (B4.out.trans (hb.mono B4.out.size)); clear hr hb hz)
    | ((with_reducible refine store_row (o := ⟨none, _, _, _, _, _⟩) rfl _ (.tmp 10) _ rfl w4.heap.size (fiC s bv 0 tv) ?_ ?_ 44 _ R5.out ?_ ?_ ?_ ?_); (focus go_simp); (focus (first | (go_simp; done) | (go_simp; rfl))); (focus (exact SZ.out)); (focus rfl); (focus (exact fi_one _ _ _ _ OB.out OT.out)); intro w6 hr hu; have R6 := Lib.hid hr; have F6 := Lib.hid (F5.out.keep fun z e => hu.block z (Nat.ne_of_lt (F4.out.blt e))); have T6 := Lib.hid (T5.out.keep fun z e => hu.block z (Nat.ne_of_lt (T4.out.blt e))); have B6 := Lib.hid (B5.out.trans (hu.below B4.out.size)); clear hr hu))
  have H6 := Lib.hid (H.out.mono B6.out)
  obtain ⟨z, hzf, hzr, hzc, hzb, hzt⟩ := fy_made (s := s) (su := 0) F6.out T6.out (by intro x hx; simp at hx; subst hx; exact STM.out) SSZ.out (by rw [HBL.out]; omega) (by omega) (by simp)
  have ZR := Lib.hid hzr
  have ZF := Lib.hid hzf
  have ZB := Lib.hid hzb
  have ZT := Lib.hid hzt
  have HZC := Lib.hid hzc
  clear hzr hzf hzb hzt hzc
  obtain ⟨gx, hgx⟩ : ∃ gx, w4.heap.size = gx := ⟨_, rfl⟩
  rw [hgx] at R6 ⊢
  clear hgx
  have c0 := H6.out.rp.k2.1
  go_loopw [11] (fun vi wr => ∃ (k : Nat), vi = .int .i64 (k : Int) ∧ k ≤ n ∧ Hid (∀ y ∈ Y.take k, ltM y.f.s s = true) ∧ w6 = wr) (fun vi _ => n - (intOf vi).toNat)
  case atStart => exact ⟨0, rfl, Nat.zero_le _, Lib.hid (fun y hy => by simp at hy), rfl⟩
  case round =>
    obtain ⟨k, rfl, hkn, HLT, rfl⟩ := hrel
    have hkc : k ≤ c := by omega
    have g1 : (0 : Int) ≤ (k : Int) := by omega
    by_cases hlt : k < n
    · have g2 : (k : Int) < (n : Int) := by omega
      obtain ⟨b0, off, y, rfl, hy, hc, -⟩ := H6.out.ls.at fiOk (Below.refl _ _) k hlt
      have c5 : w6.cell? ⟨b0, off + k * 4, none⟩ = some (.string y.f.s) := by have := hc 0 _ rfl; exact this
      have HY := Lib.hid hy
      have hne : y.f.s ≠ s := HNOS.out y (List.mem_of_getElem? hy)
      have HNE := Lib.hid hne
      obtain ⟨ys, hys⟩ : ∃ x, y.f.s = x := ⟨_, rfl⟩
      have HYS := Lib.hid hys
      rw [hys] at c5
      obtain ⟨bb, hbb⟩ : ∃ d, Op.bytesLess ys.toList s.toList = d := ⟨_, rfl⟩
      have HBB0 := Lib.hid (show ltM y.f.s s = bb by rw [hys]; exact hbb)
      clear hy hc hne hys
      cases bb
      · have KP := Lib.hid (show putL (Y.map (·.f)) ⟨s, b, 0, [time]⟩ = (Y.map (·.f)).take k ++ (⟨s, b, 0, [time]⟩ : Fi) :: (Y.map (·.f)).drop k by
          refine putL_at (fun z' hz' => ?_) (fun z' hz' => ?_)
          · rw [← List.map_take] at hz'
            obtain ⟨y', hy', rfl⟩ := List.mem_map.1 hz'
            exact HLT.out y' hy'
          · rw [List.getElem?_map, HY.out] at hz'
            injection hz' with hz'
            subst hz'
            exact ltM_total HBB0.out HNE.out)
        go_wp2_with fail
        have HF := Lib.hid (H6.out.ls.first k hkn)
        have HG := Lib.hid (H6.out.ls.rest k hkn)
        have R0 := Lib.hid H6.out.rp
        refine region_t (fun v => Below w6.heap.size w6 v) 20 (by kernel_rfl) (by kernel_rfl) (by kernel_rfl) (Below.refl _ _).drew ?_
        obtain ⟨d0, hd0⟩ : ∃ wd, w6.drew = wd := ⟨_, rfl⟩
        have J0 : Hid (Below w6.heap.size w6 d0) := Lib.hid (by rw [← hd0]; exact (Below.refl _ _).drew)
        rw [hd0]
        clear hd0 c0
        (refine t_read 0 rfl (by kernel_rfl) (by kernel_rfl) (by kernel_rfl) (t_free rfl) ?_ ?_ ?_; rotate_left; (focus (intro v hv; go_simp; rfl)); go_simp)
        (refine t_read 1 rfl (by kernel_rfl) (by kernel_rfl) (by kernel_rfl) (t_free rfl) ?_ ?_ ?_; rotate_left; (focus (intro v hv; go_simp; rfl)); go_simp)
        (refine t_read 2 rfl (by kernel_rfl) (by kernel_rfl) (by kernel_rfl) (t_free rfl) ?_ ?_ ?_; rotate_left; (focus (intro v hv; go_simp; rfl)); go_simp)
        (refine t_read 3 rfl (by kernel_rfl) (by kernel_rfl) (by kernel_rfl) (t_free rfl) ?_ ?_ ?_; rotate_left; (focus (intro v hv; go_simp; rfl)); go_simp)
        (refine t_read 4 rfl (by kernel_rfl) (by kernel_rfl) (by kernel_rfl) (t_free rfl) ?_ ?_ ?_; rotate_left; (focus (intro v hv; have q0 := (hv.cell (p := ⟨q, 0, none⟩) R0.out.lt).trans R0.out.k2.1; go_simp; rfl)); go_simp)
        (refine t_read 5 rfl (by kernel_rfl) (by kernel_rfl) (by kernel_rfl) (t_free rfl) ?_ ?_ ?_; rotate_left; (focus (intro v hv; go_simp; rfl)); go_simp)
        (refine t_read 6 rfl (by kernel_rfl) (by kernel_rfl) (by kernel_rfl) (t_free rfl) ?_ ?_ ?_; rotate_left; (focus (intro v hv; go_simp; (first | rw [if_pos hkc] | skip); (first | rw [if_pos hkn] | skip); first | done | rfl)); go_simp)
        (refine t_read 8 rfl (by kernel_rfl) (by kernel_rfl) (by kernel_rfl) (t_free rfl) ?_ ?_ ?_; rotate_left; (focus (intro v hv; refine lg_all 44 (.tmp 10) ?_ gx ?_ _ _ _ (R6.out.below hv R6.out.lt) Tryz.underlying44 rfl SZ.out; (focus rfl); (focus go_simp))); go_simp)
        (refine t_read 11 rfl (by kernel_rfl) (by kernel_rfl) (by kernel_rfl) (t_free rfl) ?_ ?_ ?_; rotate_left; (focus (intro v hv; go_simp; rfl)); go_simp)
        (refine t_read 12 rfl (by kernel_rfl) (by kernel_rfl) (by kernel_rfl) (t_free rfl) ?_ ?_ ?_; rotate_left; (focus (intro v hv; go_simp; rfl)); go_simp)
        (refine t_read 13 rfl (by kernel_rfl) (by kernel_rfl) (by kernel_rfl) (t_free rfl) ?_ ?_ ?_; rotate_left; (focus (intro v hv; go_simp; rfl)); go_simp)
        (refine t_read 14 rfl (by kernel_rfl) (by kernel_rfl) (by kernel_rfl) (t_free rfl) ?_ ?_ ?_; rotate_left; (focus (intro v hv; have q0 := (hv.cell (p := ⟨q, 0, none⟩) R0.out.lt).trans R0.out.k2.1; go_simp; rfl)); go_simp)
        (refine t_read 15 rfl (by kernel_rfl) (by kernel_rfl) (by kernel_rfl) (t_free rfl) ?_ ?_ ?_; rotate_left; (focus (intro v hv; go_simp; rfl)); go_simp)
        (refine t_read 16 rfl (by kernel_rfl) (by kernel_rfl) (by kernel_rfl) (t_free rfl) ?_ ?_ ?_; rotate_left; (focus (intro v hv; go_simp; (first | rw [if_pos hkc] | skip); (first | rw [if_pos hkn] | skip); first | done | rfl)); go_simp)
        refine t_twoL 7 9 rfl rfl (by kernel_rfl) rfl rfl ?_ ?_
        · intro K hK
          refine append_fi rfl _ _ rfl w6.heap.size (.slice none 0 0) [] (by go_simp; first | done | rfl) (LsF.nil _ _) (some ⟨b0, off, none⟩) k c (Y.take k) (by go_simp; first | done | rfl) (HF.out.mono fiOk J0.out) (by simp; omega) J0.out.size ?_
          intro v7 d1 hl hb hgr _
          have L7 := Lib.hid (show LsF d1 w6.heap.size v7 (Y.take k) by simpa using hl)
          have J1 := Lib.hid (J0.out.trans hb)
          have HBB := Lib.hid (below_none hgr)
          clear hl hb hgr HBB
          refine hK _ _ J1.out ?_
          go_simp
          clear hK K
          (refine t_list 9 rfl (by kernel_rfl) rfl ?_; intro K hK)
          refine build_ls fiOk fi_fill rfl _ rfl z (by have e : fiE.cells z = fiC s bv 0 tv := HZC.out.symm; rw [e]; go_simp; first | done | rfl) (ZR.out.mono J1.out) (by decide) ?_
          intro d2 hsl hb hz
          have LB := Lib.hid (show Ls fiE d2 (some ⟨d1.heap.size, 0, none⟩) 1 1 [z] from hsl)
          have J2 := Lib.hid (J1.out.trans (hb.mono J1.out.size))
          obtain ⟨g9, hg9⟩ : ∃ gx, d1.heap.size = gx := ⟨_, rfl⟩
          rw [hg9] at LB ⊢
          have L7 := Lib.hid (L7.out.kept hb)
          clear hg9
          clear hsl hb hz
          refine hK _ _ J2.out ?_
          go_simp
          clear hK K
          (refine t_list 10 rfl (by kernel_rfl) rfl ?_; intro K hK)
          refine append_fi rfl _ _ rfl w6.heap.size v7 (Y.take k) (by go_simp; first | done | rfl) L7.out (some ⟨g9, 0, none⟩) 1 1 [z] (by go_simp; first | done | rfl) LB.out (by rw [List.length_take]; omega) J2.out.size ?_
          intro v10 d3 hl hb _ _
          have L10 := Lib.hid hl
          have J3 := Lib.hid (J2.out.trans hb)
          clear hl hb
          refine hK _ _ J3.out ?_
          go_simp
          clear hK K
          (refine t_list 17 rfl (by kernel_rfl) rfl ?_; intro K hK)
          refine append_fi rfl _ _ rfl w6.heap.size v10 (Y.take k ++ [z]) (by go_simp; first | done | rfl) L10.out _ (n - k) (c - k) (Y.drop k) (by go_simp; first | done | rfl) (HG.out.mono fiOk J3.out) (by rw [List.length_append, List.length_take, List.length_singleton]; omega) J3.out.size ?_
          intro v17 d4 hl hb _ _
          have L17 := Lib.hid (show LsF d4 w6.heap.size v17 (Y.take k ++ z :: Y.drop k) by rw [List.append_cons]; exact hl)
          have J4 := Lib.hid (J3.out.trans hb)
          clear hl hb
          refine hK _ _ J4.out ?_
          go_simp
          clear hK K
          (refine t_one 18 rfl (by kernel_rfl) rfl rfl ?_ ?_ ?_; rotate_left; (focus (go_simp; rfl)); go_simp)
          (refine t_read 19 rfl (by kernel_rfl) (by kernel_rfl) (by kernel_rfl) (t_free rfl) ?_ ?_ ?_; rotate_left; (focus (intro v hv; go_simp; rfl)); go_simp)
          (refine t_last 20 rfl (by kernel_rfl) rfl (by kernel_rfl) (by kernel_rfl) ?_; intro K hK)
          have OV := Lib.hid (lso_cells L17.out.own)
          have OW := Lib.hid (lso_cell L17.out.own)
          have RQ := Lib.hid (R0.out.below J4.out R0.out.lt)
          refine store_cell rfl _ _ _ rfl q 0 v17 (by go_simp) (by go_simp; first | done | rfl) OV.out OW.out 68 _ RQ.out size_fis (by show 0 < 2; decide) ?_
          intro w9 hr hu
          have R9 := Lib.hid hr
          have U9 := Lib.hid hu
          clear hr hu
          refine hK _ _ ?_
          go_simp
          go_wp2_with fail
          all_goals
            go_ret2
            have z6 := B6.out.size
            have z8 := J4.out.size
            have z9 : w9.heap.size = d4.heap.size := U9.out.size
            obtain ⟨a', c', e1, X10⟩ := XK.relist (H6.out.mono J4.out) L17.out U9.out R9.out (fun k => T k ∨ (w.heap.size ≤ k ∧ k < w9.heap.size)) (fun k h => .inl h) (fun k hk => hk.elim (fun h => by have := H.out.lt k h; omega) (fun h => by have := h.2; omega))
              (fun g8 e => by
                have h1 := World.ownsRow.lt L17.out.own g8 e
                exact .inr ⟨by omega, by omega⟩)
              (fun y hy b off s e => by
                rcases (mem_ins (Y := Y) (k := k) (z := z)).1 hy with rfl | h1
                · have hl := ((L17.out.fit _ hy).kb b off s e).lt
                  exact .inr ⟨ZB.out b off s e, by omega⟩
                · exact .inl (H.out.Tb y h1 b off s e))
              (fun y hy b off s e => by
                rcases (mem_ins (Y := Y) (k := k) (z := z)).1 hy with rfl | h1
                · have hl := ((L17.out.fit _ hy).kt b off s e).lt
                  exact .inr ⟨ZT.out b off s e, by omega⟩
                · exact .inl (H.out.Tt y h1 b off s e))
            refine ⟨rfl, a', _, c', Y.take k ++ z :: Y.drop k, ?_, X10, ?_⟩
            · rw [KP.out, List.map_append, List.map_cons, List.map_take, List.map_drop, ZF.out]
            · exact (Ft.of_below (B6.out.trans (J4.out.mono B6.out.size))).on (Ft.of_upd (F := fun k => k = q) U9.out rfl) (fun b hb => .inl hb)
        · intro K hK
          refine build_ls fiOk fi_fill rfl _ rfl z (by have e : fiE.cells z = fiC s bv 0 tv := HZC.out.symm; rw [e]; go_simp; first | done | rfl) (ZR.out.mono J0.out) (by decide) ?_
          intro d1 hsl hb hz
          have LB := Lib.hid (show Ls fiE d1 (some ⟨d0.heap.size, 0, none⟩) 1 1 [z] from hsl)
          have J1 := Lib.hid (J0.out.trans (hb.mono J0.out.size))
          obtain ⟨g9, hg9⟩ : ∃ gx, d0.heap.size = gx := ⟨_, rfl⟩
          rw [hg9] at LB ⊢
          clear hg9
          clear hsl hb hz
          refine hK _ _ J1.out ?_
          go_simp
          clear hK K
          (refine t_list 7 rfl (by kernel_rfl) rfl ?_; intro K hK)
          refine append_fi rfl _ _ rfl w6.heap.size (.slice none 0 0) [] (by go_simp; first | done | rfl) (LsF.nil _ _) (some ⟨b0, off, none⟩) k c (Y.take k) (by go_simp; first | done | rfl) (HF.out.mono fiOk J1.out) (by simp; omega) J1.out.size ?_
          intro v7 d2 hl hb hgr _
          have L7 := Lib.hid (show LsF d2 w6.heap.size v7 (Y.take k) by simpa using hl)
          have J2 := Lib.hid (J1.out.trans hb)
          have HBB := Lib.hid (below_none hgr)
          have LB := Lib.hid (LB.out.mono fiOk HBB.out)
          clear hl hb hgr HBB
          refine hK _ _ J2.out ?_
          go_simp
          clear hK K
          (refine t_list 10 rfl (by kernel_rfl) rfl ?_; intro K hK)
          refine append_fi rfl _ _ rfl w6.heap.size v7 (Y.take k) (by go_simp; first | done | rfl) L7.out (some ⟨g9, 0, none⟩) 1 1 [z] (by go_simp; first | done | rfl) LB.out (by rw [List.length_take]; omega) J2.out.size ?_
          intro v10 d3 hl hb _ _
          have L10 := Lib.hid hl
          have J3 := Lib.hid (J2.out.trans hb)
          clear hl hb
          refine hK _ _ J3.out ?_
          go_simp
          clear hK K
          (refine t_list 17 rfl (by kernel_rfl) rfl ?_; intro K hK)
          refine append_fi rfl _ _ rfl w6.heap.size v10 (Y.take k ++ [z]) (by go_simp; first | done | rfl) L10.out _ (n - k) (c - k) (Y.drop k) (by go_simp; first | done | rfl) (HG.out.mono fiOk J3.out) (by rw [List.length_append, List.length_take, List.length_singleton]; omega) J3.out.size ?_
          intro v17 d4 hl hb _ _
          have L17 := Lib.hid (show LsF d4 w6.heap.size v17 (Y.take k ++ z :: Y.drop k) by rw [List.append_cons]; exact hl)
          have J4 := Lib.hid (J3.out.trans hb)
          clear hl hb
          refine hK _ _ J4.out ?_
          go_simp
          clear hK K
          (refine t_one 18 rfl (by kernel_rfl) rfl rfl ?_ ?_ ?_; rotate_left; (focus (go_simp; rfl)); go_simp)
          (refine t_read 19 rfl (by kernel_rfl) (by kernel_rfl) (by kernel_rfl) (t_free rfl) ?_ ?_ ?_; rotate_left; (focus (intro v hv; go_simp; rfl)); go_simp)
          (refine t_last 20 rfl (by kernel_rfl) rfl (by kernel_rfl) (by kernel_rfl) ?_; intro K hK)
          have OV := Lib.hid (lso_cells L17.out.own)
          have OW := Lib.hid (lso_cell L17.out.own)
          have RQ := Lib.hid (R0.out.below J4.out R0.out.lt)
          refine store_cell rfl _ _ _ rfl q 0 v17 (by go_simp) (by go_simp; first | done | rfl) OV.out OW.out 68 _ RQ.out size_fis (by show 0 < 2; decide) ?_
          intro w9 hr hu
          have R9 := Lib.hid hr
          have U9 := Lib.hid hu
          clear hr hu
          refine hK _ _ ?_
          go_simp
          go_wp2_with fail
          all_goals
            go_ret2
            have z6 := B6.out.size
            have z8 := J4.out.size
            have z9 : w9.heap.size = d4.heap.size := U9.out.size
            obtain ⟨a', c', e1, X10⟩ := XK.relist (H6.out.mono J4.out) L17.out U9.out R9.out (fun k => T k ∨ (w.heap.size ≤ k ∧ k < w9.heap.size)) (fun k h => .inl h) (fun k hk => hk.elim (fun h => by have := H.out.lt k h; omega) (fun h => by have := h.2; omega))
              (fun g8 e => by
                have h1 := World.ownsRow.lt L17.out.own g8 e
                exact .inr ⟨by omega, by omega⟩)
              (fun y hy b off s e => by
                rcases (mem_ins (Y := Y) (k := k) (z := z)).1 hy with rfl | h1
                · have hl := ((L17.out.fit _ hy).kb b off s e).lt
                  exact .inr ⟨ZB.out b off s e, by omega⟩
                · exact .inl (H.out.Tb y h1 b off s e))
              (fun y hy b off s e => by
                rcases (mem_ins (Y := Y) (k := k) (z := z)).1 hy with rfl | h1
                · have hl := ((L17.out.fit _ hy).kt b off s e).lt
                  exact .inr ⟨ZT.out b off s e, by omega⟩
                · exact .inl (H.out.Tt y h1 b off s e))
            refine ⟨rfl, a', _, c', Y.take k ++ z :: Y.drop k, ?_, X10, ?_⟩
            · rw [KP.out, List.map_append, List.map_cons, List.map_take, List.map_drop, ZF.out]
            · exact (Ft.of_below (B6.out.trans (J4.out.mono B6.out.size))).on (Ft.of_upd (F := fun k => k = q) U9.out rfl) (fun b hb => .inl hb)
      · go_wp2_with fail
        go_roundw
        case rel =>
          refine ⟨k + 1, by go_num, by omega, Lib.hid ?_, trivial⟩
          intro y' hy'
          obtain ⟨q1, q2⟩ := List.getElem?_eq_some_iff.1 HY.out
          rw [List.take_succ_eq_append_getElem q1, q2] at hy'
          rcases List.mem_append.1 hy' with h1 | h1
          · exact HLT.out y' h1
          · simp at h1; subst h1; exact HBB0.out
        case measure => simp [intOf]; omega
    · have g2 : ¬ (k : Int) < (n : Int) := by omega
      have KP := Lib.hid (show putL (Y.map (·.f)) ⟨s, b, 0, [time]⟩ = (Y.map (·.f)).take k ++ (⟨s, b, 0, [time]⟩ : Fi) :: (Y.map (·.f)).drop k by
        refine putL_at (fun z' hz' => ?_) (fun z' hz' => ?_)
        · rw [← List.map_take] at hz'
          obtain ⟨y', hy', rfl⟩ := List.mem_map.1 hz'
          exact HLT.out y' hy'
        · rw [List.getElem?_eq_none (by rw [List.length_map, HLN.out]; omega)] at hz'
          cases hz')
      go_wp2_with fail
      have HF := Lib.hid (H6.out.ls.first k hkn)
      have HG := Lib.hid (H6.out.ls.rest k hkn)
      have R0 := Lib.hid H6.out.rp
      refine region_t (fun v => Below w6.heap.size w6 v) 20 (by kernel_rfl) (by kernel_rfl) (by kernel_rfl) (Below.refl _ _).drew ?_
      obtain ⟨d0, hd0⟩ : ∃ wd, w6.drew = wd := ⟨_, rfl⟩
      have J0 : Hid (Below w6.heap.size w6 d0) := Lib.hid (by rw [← hd0]; exact (Below.refl _ _).drew)
      rw [hd0]
      clear hd0 c0
      (refine t_read 0 rfl (by kernel_rfl) (by kernel_rfl) (by kernel_rfl) (t_free rfl) ?_ ?_ ?_; rotate_left; (focus (intro v hv; go_simp; rfl)); go_simp)
      (refine t_read 1 rfl (by kernel_rfl) (by kernel_rfl) (by kernel_rfl) (t_free rfl) ?_ ?_ ?_; rotate_left; (focus (intro v hv; go_simp; rfl)); go_simp)
      (refine t_read 2 rfl (by kernel_rfl) (by kernel_rfl) (by kernel_rfl) (t_free rfl) ?_ ?_ ?_; rotate_left; (focus (intro v hv; go_simp; rfl)); go_simp)
      (refine t_read 3 rfl (by kernel_rfl) (by kernel_rfl) (by kernel_rfl) (t_free rfl) ?_ ?_ ?_; rotate_left; (focus (intro v hv; go_simp; rfl)); go_simp)
      (refine t_read 4 rfl (by kernel_rfl) (by kernel_rfl) (by kernel_rfl) (t_free rfl) ?_ ?_ ?_; rotate_left; (focus (intro v hv; have q0 := (hv.cell (p := ⟨q, 0, none⟩) R0.out.lt).trans R0.out.k2.1; go_simp; rfl)); go_simp)
      (refine t_read 5 rfl (by kernel_rfl) (by kernel_rfl) (by kernel_rfl) (t_free rfl) ?_ ?_ ?_; rotate_left; (focus (intro v hv; go_simp; rfl)); go_simp)
      (refine t_read 6 rfl (by kernel_rfl) (by kernel_rfl) (by kernel_rfl) (t_free rfl) ?_ ?_ ?_; rotate_left; (focus (intro v hv; go_simp; (first | rw [if_pos hkc] | skip); (first | rw [if_pos hkn] | skip); first | done | rfl)); go_simp)
      (refine t_read 8 rfl (by kernel_rfl) (by kernel_rfl) (by kernel_rfl) (t_free rfl) ?_ ?_ ?_; rotate_left; (focus (intro v hv; refine lg_all 44 (.tmp 10) ?_ gx ?_ _ _ _ (R6.out.below hv R6.out.lt) Tryz.underlying44 rfl SZ.out; (focus rfl); (focus go_simp))); go_simp)
      (refine t_read 11 rfl (by kernel_rfl) (by kernel_rfl) (by kernel_rfl) (t_free rfl) ?_ ?_ ?_; rotate_left; (focus (intro v hv; go_simp; rfl)); go_simp)
      (refine t_read 12 rfl (by kernel_rfl) (by kernel_rfl) (by kernel_rfl) (t_free rfl) ?_ ?_ ?_; rotate_left; (focus (intro v hv; go_simp; rfl)); go_simp)
      (refine t_read 13 rfl (by kernel_rfl) (by kernel_rfl) (by kernel_rfl) (t_free rfl) ?_ ?_ ?_; rotate_left; (focus (intro v hv; go_simp; rfl)); go_simp)
      (refine t_read 14 rfl (by kernel_rfl) (by kernel_rfl) (by kernel_rfl) (t_free rfl) ?_ ?_ ?_; rotate_left; (focus (intro v hv; have q0 := (hv.cell (p := ⟨q, 0, none⟩) R0.out.lt).trans R0.out.k2.1; go_simp; rfl)); go_simp)
      (refine t_read 15 rfl (by kernel_rfl) (by kernel_rfl) (by kernel_rfl) (t_free rfl) ?_ ?_ ?_; rotate_left; (focus (intro v hv; go_simp; rfl)); go_simp)
      (refine t_read 16 rfl (by kernel_rfl) (by kernel_rfl) (by kernel_rfl) (t_free rfl) ?_ ?_ ?_; rotate_left; (focus (intro v hv; go_simp; (first | rw [if_pos hkc] | skip); (first | rw [if_pos hkn] | skip); first | done | rfl)); go_simp)
      refine t_twoL 7 9 rfl rfl (by kernel_rfl) rfl rfl ?_ ?_
      · intro K hK
        refine append_fi rfl _ _ rfl w6.heap.size (.slice none 0 0) [] (by go_simp; first | done | rfl) (LsF.nil _ _) a k c (Y.take k) (by go_simp; first | done | rfl) (HF.out.mono fiOk J0.out) (by simp; omega) J0.out.size ?_
        intro v7 d1 hl hb hgr _
        have L7 := Lib.hid (show LsF d1 w6.heap.size v7 (Y.take k) by simpa using hl)
        have J1 := Lib.hid (J0.out.trans hb)
        have HBB := Lib.hid (below_none hgr)
        clear hl hb hgr HBB
        refine hK _ _ J1.out ?_
        go_simp
        clear hK K
        (refine t_list 9 rfl (by kernel_rfl) rfl ?_; intro K hK)
        refine build_ls fiOk fi_fill rfl _ rfl z (by have e : fiE.cells z = fiC s bv 0 tv := HZC.out.symm; rw [e]; go_simp; first | done | rfl) (ZR.out.mono J1.out) (by decide) ?_
        intro d2 hsl hb hz
        have LB := Lib.hid (show Ls fiE d2 (some ⟨d1.heap.size, 0, none⟩) 1 1 [z] from hsl)
        have J2 := Lib.hid (J1.out.trans (hb.mono J1.out.size))
        obtain ⟨g9, hg9⟩ : ∃ gx, d1.heap.size = gx := ⟨_, rfl⟩
        rw [hg9] at LB ⊢
        have L7 := Lib.hid (L7.out.kept hb)
        clear hg9
        clear hsl hb hz
        refine hK _ _ J2.out ?_
        go_simp
        clear hK K
        (refine t_list 10 rfl (by kernel_rfl) rfl ?_; intro K hK)
        refine append_fi rfl _ _ rfl w6.heap.size v7 (Y.take k) (by go_simp; first | done | rfl) L7.out (some ⟨g9, 0, none⟩) 1 1 [z] (by go_simp; first | done | rfl) LB.out (by rw [List.length_take]; omega) J2.out.size ?_
        intro v10 d3 hl hb _ _
        have L10 := Lib.hid hl
        have J3 := Lib.hid (J2.out.trans hb)
        clear hl hb
        refine hK _ _ J3.out ?_
        go_simp
        clear hK K
        (refine t_list 17 rfl (by kernel_rfl) rfl ?_; intro K hK)
        refine append_fi rfl _ _ rfl w6.heap.size v10 (Y.take k ++ [z]) (by go_simp; first | done | rfl) L10.out _ (n - k) (c - k) (Y.drop k) (by go_simp; first | done | rfl) (HG.out.mono fiOk J3.out) (by rw [List.length_append, List.length_take, List.length_singleton]; omega) J3.out.size ?_
        intro v17 d4 hl hb _ _
        have L17 := Lib.hid (show LsF d4 w6.heap.size v17 (Y.take k ++ z :: Y.drop k) by rw [List.append_cons]; exact hl)
        have J4 := Lib.hid (J3.out.trans hb)
        clear hl hb
        refine hK _ _ J4.out ?_
        go_simp
        clear hK K
        (refine t_one 18 rfl (by kernel_rfl) rfl rfl ?_ ?_ ?_; rotate_left; (focus (go_simp; rfl)); go_simp)
        (refine t_read 19 rfl (by kernel_rfl) (by kernel_rfl) (by kernel_rfl) (t_free rfl) ?_ ?_ ?_; rotate_left; (focus (intro v hv; go_simp; rfl)); go_simp)
        (refine t_last 20 rfl (by kernel_rfl) rfl (by kernel_rfl) (by kernel_rfl) ?_; intro K hK)
        have OV := Lib.hid (lso_cells L17.out.own)
        have OW := Lib.hid (lso_cell L17.out.own)
        have RQ := Lib.hid (R0.out.below J4.out R0.out.lt)
        refine store_cell rfl _ _ _ rfl q 0 v17 (by go_simp) (by go_simp; first | done | rfl) OV.out OW.out 68 _ RQ.out size_fis (by show 0 < 2; decide) ?_
        intro w9 hr hu
        have R9 := Lib.hid hr
        have U9 := Lib.hid hu
        clear hr hu
        refine hK _ _ ?_
        go_simp
        go_wp2_with fail
        all_goals
          go_ret2
          have z6 := B6.out.size
          have z8 := J4.out.size
          have z9 : w9.heap.size = d4.heap.size := U9.out.size
          obtain ⟨a', c', e1, X10⟩ := XK.relist (H6.out.mono J4.out) L17.out U9.out R9.out (fun k => T k ∨ (w.heap.size ≤ k ∧ k < w9.heap.size)) (fun k h => .inl h) (fun k hk => hk.elim (fun h => by have := H.out.lt k h; omega) (fun h => by have := h.2; omega))
            (fun g8 e => by
              have h1 := World.ownsRow.lt L17.out.own g8 e
              exact .inr ⟨by omega, by omega⟩)
            (fun y hy b off s e => by
              rcases (mem_ins (Y := Y) (k := k) (z := z)).1 hy with rfl | h1
              · have hl := ((L17.out.fit _ hy).kb b off s e).lt
                exact .inr ⟨ZB.out b off s e, by omega⟩
              · exact .inl (H.out.Tb y h1 b off s e))
            (fun y hy b off s e => by
              rcases (mem_ins (Y := Y) (k := k) (z := z)).1 hy with rfl | h1
              · have hl := ((L17.out.fit _ hy).kt b off s e).lt
                exact .inr ⟨ZT.out b off s e, by omega⟩
              · exact .inl (H.out.Tt y h1 b off s e))
          refine ⟨rfl, a', _, c', Y.take k ++ z :: Y.drop k, ?_, X10, ?_⟩
          · rw [KP.out, List.map_append, List.map_cons, List.map_take, List.map_drop, ZF.out]
          · exact (Ft.of_below (B6.out.trans (J4.out.mono B6.out.size))).on (Ft.of_upd (F := fun k => k = q) U9.out rfl) (fun b hb => .inl hb)
      · intro K hK
        refine build_ls fiOk fi_fill rfl _ rfl z (by have e : fiE.cells z = fiC s bv 0 tv := HZC.out.symm; rw [e]; go_simp; first | done | rfl) (ZR.out.mono J0.out) (by decide) ?_
        intro d1 hsl hb hz
        have LB := Lib.hid (show Ls fiE d1 (some ⟨d0.heap.size, 0, none⟩) 1 1 [z] from hsl)
        have J1 := Lib.hid (J0.out.trans (hb.mono J0.out.size))
        obtain ⟨g9, hg9⟩ : ∃ gx, d0.heap.size = gx := ⟨_, rfl⟩
        rw [hg9] at LB ⊢
        clear hg9
        clear hsl hb hz
        refine hK _ _ J1.out ?_
        go_simp
        clear hK K
        (refine t_list 7 rfl (by kernel_rfl) rfl ?_; intro K hK)
        refine append_fi rfl _ _ rfl w6.heap.size (.slice none 0 0) [] (by go_simp; first | done | rfl) (LsF.nil _ _) a k c (Y.take k) (by go_simp; first | done | rfl) (HF.out.mono fiOk J1.out) (by simp; omega) J1.out.size ?_
        intro v7 d2 hl hb hgr _
        have L7 := Lib.hid (show LsF d2 w6.heap.size v7 (Y.take k) by simpa using hl)
        have J2 := Lib.hid (J1.out.trans hb)
        have HBB := Lib.hid (below_none hgr)
        have LB := Lib.hid (LB.out.mono fiOk HBB.out)
        clear hl hb hgr HBB
        refine hK _ _ J2.out ?_
        go_simp
        clear hK K
        (refine t_list 10 rfl (by kernel_rfl) rfl ?_; intro K hK)
        refine append_fi rfl _ _ rfl w6.heap.size v7 (Y.take k) (by go_simp; first | done | rfl) L7.out (some ⟨g9, 0, none⟩) 1 1 [z] (by go_simp; first | done | rfl) LB.out (by rw [List.length_take]; omega) J2.out.size ?_
        intro v10 d3 hl hb _ _
        have L10 := Lib.hid hl
        have J3 := Lib.hid (J2.out.trans hb)
        clear hl hb
        refine hK _ _ J3.out ?_
        go_simp
        clear hK K
        (refine t_list 17 rfl (by kernel_rfl) rfl ?_; intro K hK)
        refine append_fi rfl _ _ rfl w6.heap.size v10 (Y.take k ++ [z]) (by go_simp; first | done | rfl) L10.out _ (n - k) (c - k) (Y.drop k) (by go_simp; first | done | rfl) (HG.out.mono fiOk J3.out) (by rw [List.length_append, List.length_take, List.length_singleton]; omega) J3.out.size ?_
        intro v17 d4 hl hb _ _
        have L17 := Lib.hid (show LsF d4 w6.heap.size v17 (Y.take k ++ z :: Y.drop k) by rw [List.append_cons]; exact hl)
        have J4 := Lib.hid (J3.out.trans hb)
        clear hl hb
        refine hK _ _ J4.out ?_
        go_simp
        clear hK K
        (refine t_one 18 rfl (by kernel_rfl) rfl rfl ?_ ?_ ?_; rotate_left; (focus (go_simp; rfl)); go_simp)
        (refine t_read 19 rfl (by kernel_rfl) (by kernel_rfl) (by kernel_rfl) (t_free rfl) ?_ ?_ ?_; rotate_left; (focus (intro v hv; go_simp; rfl)); go_simp)
        (refine t_last 20 rfl (by kernel_rfl) rfl (by kernel_rfl) (by kernel_rfl) ?_; intro K hK)
        have OV := Lib.hid (lso_cells L17.out.own)
        have OW := Lib.hid (lso_cell L17.out.own)
        have RQ := Lib.hid (R0.out.below J4.out R0.out.lt)
        refine store_cell rfl _ _ _ rfl q 0 v17 (by go_simp) (by go_simp; first | done | rfl) OV.out OW.out 68 _ RQ.out size_fis (by show 0 < 2; decide) ?_
        intro w9 hr hu
        have R9 := Lib.hid hr
        have U9 := Lib.hid hu
        clear hr hu
        refine hK _ _ ?_
        go_simp
        go_wp2_with fail
        all_goals
          go_ret2
          have z6 := B6.out.size
          have z8 := J4.out.size
          have z9 : w9.heap.size = d4.heap.size := U9.out.size
          obtain ⟨a', c', e1, X10⟩ := XK.relist (H6.out.mono J4.out) L17.out U9.out R9.out (fun k => T k ∨ (w.heap.size ≤ k ∧ k < w9.heap.size)) (fun k h => .inl h) (fun k hk => hk.elim (fun h => by have := H.out.lt k h; omega) (fun h => by have := h.2; omega))
            (fun g8 e => by
              have h1 := World.ownsRow.lt L17.out.own g8 e
              exact .inr ⟨by omega, by omega⟩)
            (fun y hy b off s e => by
              rcases (mem_ins (Y := Y) (k := k) (z := z)).1 hy with rfl | h1
              · have hl := ((L17.out.fit _ hy).kb b off s e).lt
                exact .inr ⟨ZB.out b off s e, by omega⟩
              · exact .inl (H.out.Tb y h1 b off s e))
            (fun y hy b off s e => by
              rcases (mem_ins (Y := Y) (k := k) (z := z)).1 hy with rfl | h1
              · have hl := ((L17.out.fit _ hy).kt b off s e).lt
                exact .inr ⟨ZT.out b off s e, by omega⟩
              · exact .inl (H.out.Tt y h1 b off s e))
          refine ⟨rfl, a', _, c', Y.take k ++ z :: Y.drop k, ?_, X10, ?_⟩
          · rw [KP.out, List.map_append, List.map_cons, List.map_take, List.map_drop, ZF.out]
          · exact (Ft.of_below (B6.out.trans (J4.out.mono B6.out.size))).on (Ft.of_upd (F := fun k => k = q) U9.out rfl) (fun b hb => .inl hb)
end Go.Proofs.YtkfhppbmnjmnoaaGreatDoor.W

/- LAYER 28 (chunk): the reference's Put of a piece that is there. -/
set_option linter.unusedSimpArgs false
set_option linter.unusedVariables false
namespace Go.Proofs.YtkfhppbmnjmnoaaGreatDoor.W
open Go Go.ChangeShapes Go.WideShapes Go.ChangeAt Go.RowKit
open Go.Proofs.YtkfhppbmnjmnoaaGreatDoor.P (shaL shaL_len)

theorem size_ints : (Tryz.prog.info? 31).map (·.size) = some 1 := by kernel_rfl
theorem size_bytes : (Tryz.prog.info? 30).map (·.size) = some 1 := by kernel_rfl
theorem ls_of_lso {w : World} {base tl xtc : Nat} {xt : Option Addr} {L : List Int} (h : LsO intE w base (.slice xt tl xtc) L) (hf : ∀ x ∈ L, SI64 x) (hl : L.length = tl) : Ls intE w xt tl xtc L := by
  obtain ⟨a, c, e, hls, -⟩ := h.ls intOk hf
  rw [hl] at e hls
  injection e with e1 e2 e3
  subst e1 e3
  exact hls
theorem used_mem {f : Fi} : ∀ {L : List Fi}, f ∈ L → f.b.length ≤ usedC L
  | g :: L, h => by
    rw [used_cons]
    rcases List.mem_cons.1 h with rfl | h
    · omega
    · have := used_mem h; omega
theorem timedL_mem : ∀ (L : List Int) (x y : Int), y ∈ timedL L x ↔ y = x ∨ y ∈ L
  | [], x, y => by simp [timedL]
  | z :: L, x, y => by
    unfold timedL
    split
    · simp
    · split
      · rename_i h; subst h; simp
      · rw [List.mem_cons, timedL_mem L x y, List.mem_cons]
        constructor
        · rintro (h | h | h)
          · exact .inr (.inl h)
          · exact .inl h
          · exact .inr (.inr h)
        · rintro (h | h | h)
          · exact .inr (.inl h)
          · exact .inl h
          · exact .inr (.inr h)
theorem timedL_len : ∀ (L : List Int) (x : Int), (timedL L x).length ≤ L.length + 1
  | [], x => by simp [timedL]
  | z :: L, x => by
    unfold timedL
    split
    · simp
    · split
      · simp
      · have := timedL_len L x; simp; omega
set_option maxRecDepth 100000 in
set_option maxHeartbeats 16000000 in
theorem xcput_same {w : World} {q n c : Nat} {most : Int} {a : Option Addr} {Y : List FY} {T : Nat → Prop} (ba : Option Addr) (bn bc : Nat) (b : List UInt8) (time : Int) (h : XK w q most a n c Y T) (hn : n ≤ 524288) (h256 : ∀ y ∈ Y, y.f.b.length ≤ 256) (hus : usedC (Y.map (·.f)) ≤ 524288) (hmost : 0 ≤ most ∧ most ≤ 524288)
    (hb : Rd w ba bn bc b) (hb1 : 1 ≤ bn ∧ bn ≤ 256) (htm : SI64 time) (hris : RisC (Y.map (·.f))) (k : Nat) (y : FY) (hyk : Y[k]? = some y) (hys : y.f.s = sumOf b) (hat : atI (sumOf b) (Y.map (·.f)) = (k : Int)) (hyt : y.f.t.Pairwise (· < ·)) (hyl : y.f.t.length ≤ 900) (hsame : y.f.b = b) :
    Calls Tryz.prog 37 #[.pointer (some ⟨q, 0, none⟩), .slice ba bn bc, .int .i64 time] w fun e w' => e = .returned (.tuple #[.string (sumOf b), .int .i64 0]) ∧ ∃ a' n' c' Z, Z.map (·.f) = putL (Y.map (·.f)) ⟨sumOf b, b, y.f.su, timedL y.f.t time⟩ ∧ XK w' q most a' n' c' Z (fun k => T k ∨ (w.heap.size ≤ k ∧ k < w'.heap.size)) ∧ Ft (fun k => k = q) w w' := by
  have HP := Lib.hid (fun w => zwithin (bn : Int) 1 256 w)
  rw [show in64 (bn : Int) 1 256 = true by unfold in64; simp; omega] at HP
  have HSU := Lib.hid (rsum_any ba bn bc b w hb (by omega))
  have HAT := Lib.hid (fun w' (hw : Below w.heap.size w w') => xcat (sumOf b) (h.mono hw) (by omega))
  rw [hat] at HAT
  have HUS := Lib.hid (fun w' (hw : Below w.heap.size w w') => xcused (h.mono hw) hn h256)
  have H := Lib.hid h
  have HL := Lib.hid h.ls.hlen
  have hnc := h.ls.hle
  have hkn : k < n := by rw [← HL.out]; exact (List.getElem?_eq_some_iff.1 hyk).1
  have hym := List.mem_of_getElem? hyk
  have hyb := h256 y hym
  have hub : y.f.b.length ≤ usedC (Y.map (·.f)) := used_mem (List.mem_map.2 ⟨y, hym, rfl⟩)
  obtain ⟨U, hU⟩ : ∃ U, usedC (Y.map (·.f)) = U := ⟨_, rfl⟩
  rw [hU] at HUS hus hub
  obtain ⟨b0, off, y2, rfl, hy2, hc, hf⟩ := h.ls.at fiOk (Below.refl _ _) k hkn
  obtain rfl : y = y2 := by rw [hyk] at hy2; exact Option.some.inj hy2
  have HCE := Lib.hid (show ∀ j v, y.cells[j]? = some v → w.cell? ⟨b0, off + k * 4 + j, none⟩ = some v from hc)
  have LTB := Lib.hid (show b0 < w.heap.size from h.lt _ (h.Ta b0 off none rfl).1)
  have HFY := Lib.hid hf
  have ssz : (sumOf b).size ≤ 1000000 := by rw [sumOf_size]; decide
  obtain ⟨s, hs⟩ : ∃ s, sumOf b = s := ⟨_, rfl⟩
  replace HSU : Hid (Calls Tryz.prog 20 #[.slice ba bn bc] w fun e w' => e = .returned (.string s) ∧ Below w.heap.size w w') := Lib.hid (by rw [← hs]; exact HSU.out)
  rw [hs] at HAT ssz hys ⊢
  have HBL := Lib.hid hb.hlen
  have HB := Lib.hid hb
  have SZ := Lib.hid file_size
  have FZ := Lib.hid file_zero
  have STM := Lib.hid htm
  have SSZ := Lib.hid ssz
  have HSS := Lib.hid hs
  have HRIS := Lib.hid hris
  have HYK := Lib.hid hyk
  have HYT := Lib.hid hyt
  have HYL := Lib.hid hyl
  have HYB := Lib.hid hyb
  have g1 : (0 : Int) ≤ (k : Int) := by omega
  have g2 : (k : Int) < (n : Int) := by omega
  clear h hb hat hU hs h256 htm ssz hris hyk hyt hyl hyb hc hf hy2 hym
  obtain ⟨⟨ys, yb, yu, yt⟩, fa, fn, fc, ta, tn, tc⟩ := y
  dsimp only at hys hub HYT HYL HYB HYK HCE HFY hsame ⊢
  obtain rfl : s = ys := hys.symm
  replace HCE : Hid (∀ j v, (fiC s (.slice fa fn fc) yu (.slice ta tn tc))[j]? = some v → w.cell? ⟨b0, off + k * 4 + j, none⟩ = some v) := HCE
  have HFN := Lib.hid (show yb.length = fn from HFY.out.rb.hlen)
  obtain ⟨tl, htl⟩ : ∃ tl, yt.length = tl := ⟨_, rfl⟩
  have HTL := Lib.hid htl
  clear htl
  have hfn : fn ≤ 256 := by rw [← HFN.out]; exact HYB.out
  clear hys
  subst hsame
  have eqs : ((str yb).toList == (str yb).toList) = true := by simp
  go_enter Tryz.func37, Tryz.ntmps37
  go_wp2_with (first
    | (go_at_call 69; (with_reducible refine (HP.out _).mono ?_); rintro e w1 ⟨rfl, rfl⟩)
    | (go_at_call 20; (with_reducible refine HSU.out.mono ?_); rintro e w2 ⟨rfl, hb⟩; have B2 := Lib.hid hb; have H2 := Lib.hid (H.out.mono hb); have c0 := H2.out.rp.k2.1; have HC2 := Lib.hid (show ∀ j v, (fiC s (.slice fa fn fc) yu (.slice ta tn tc))[j]? = some v → w2.cell? ⟨b0, off + k * 4 + j, none⟩ = some v from fun j v hj => (hb.cell (p := ⟨b0, off + k * 4 + j, none⟩) LTB.out).trans (HCE.out j v hj)); have HFY2 := Lib.hid (HFY.out.mono hb); have HB2 := Lib.hid (HB.out.mono hb); clear hb)
    | (go_at_call 70; (with_reducible refine (HAT.out _ B2.out).mono ?_); rintro e w3 ⟨rfl, rfl⟩)
    | ((with_reducible refine load_cells (o := ⟨some 88, _, _, _, _, _⟩) rfl _ _ rfl b0 (off + k * 4) ?_ (fiC s (.slice fa fn fc) yu (.slice ta tn tc)) _ HC2.out Tryz.underlying44 ?_ ?_ ?_); (focus go_simp); (focus rfl); (focus (exact SZ.out)))
    | (go_at_call 49; have HD := xccopied ⟨⟨s, yb, yu, yt⟩, fa, fn, fc, ta, tn, tc⟩ w2 HFY2.out; (with_reducible refine HD.mono ?_); clear HD; rintro e w4 ⟨bv, tv, rfl, hf, ht, hb⟩; have B4 := Lib.hid (B2.out.trans (hb.mono B2.out.size)); have F4 := Lib.hid (hf.base B2.out.size); have T4 := Lib.hid (ht.base B2.out.size); have OB := Lib.hid (fr_one hf); have OT := Lib.hid (lso_cell ht); have HB4 := Lib.hid (HB2.out.mono hb); clear hf ht hb c0)
    | ((with_reducible refine alloc_row (o := ⟨some 12, _, _, _, _, _⟩) rfl _ rfl _ FZ.out ?_); intro w5 hr hb hz; have R5 := Lib.hid hr; have F5 := Lib.hid (F4.out.kept hb); have T5 := Lib.hid (T4.out.kept hb); have B5 := Lib.hid (B4.out.trans (hb.mono B4.out.size)); have HB5 := Lib.hid (HB4.out.mono hb); clear hr hb hz)
    | ((with_reducible refine store_row (o := ⟨none, _, _, _, _, _⟩) rfl _ (.tmp 12) _ rfl w4.heap.size (fiC s bv yu tv) ?_ ?_ 44 _ R5.out ?_ ?_ ?_ ?_); (focus go_simp); (focus (first | (go_simp; done) | (go_simp; rfl))); (focus (exact SZ.out)); (focus rfl); (focus (exact fi_one _ _ _ _ OB.out OT.out)); intro w6 hr hu; have R6 := Lib.hid hr; have F6 := Lib.hid (F5.out.keep fun z e => hu.block z (Nat.ne_of_lt (F4.out.blt e))); have T6 := Lib.hid (T5.out.keep fun z e => hu.block z (Nat.ne_of_lt (T4.out.blt e))); have B6 := Lib.hid (B5.out.trans (hu.below B4.out.size)); have L6 := Lib.hid (show w.heap.size ≤ w4.heap.size from B4.out.size); obtain ⟨xa, xc, hbv, hrd⟩ := F6.out.form' fn HFN.out; subst hbv; have X6 := Lib.hid hrd; have Y6 := Lib.hid (HB.out.mono B6.out); have q1 := hr.k4.2.1; have cv1 := conv_rd hrd; have cv2 := conv_rd Y6.out; obtain ⟨xt, xtc, htv, hlt0, -⟩ := T6.out.ls intOk HFY.out.rt.hfit; rw [HTL.out] at htv hlt0; subst htv; have q3 := R6.out.k4.2.2.2; have TL6 := Lib.hid hlt0; clear hr hu hrd hlt0))
  obtain ⟨gx, hgx⟩ : ∃ gx, w4.heap.size = gx := ⟨_, rfl⟩
  rw [hgx] at R6 L6 q1 ⊢
  have GXL := Lib.hid (show w.heap.size ≤ gx from L6.out)
  clear hgx
  have SZI := Lib.hid size_ints
  have TSI := Lib.hid (show ∀ x ∈ timedL yt time, SI64 x from fun x hx => (timedL_mem yt time x).1 hx |>.elim (fun e => e ▸ STM.out) (fun h => HFY.out.rt.hfit x h))
  have TLE := Lib.hid (show (timedL yt time).length ≤ 1000 from Nat.le_trans (timedL_len yt time) (by have := HYL.out; omega))
  go_wp2_with (first
    | (go_at_call 71; have HD := xctimed xt tl xtc yt time _ TL6.out HYT.out (by have := HYL.out; have := HTL.out; omega) STM.out; (with_reducible refine HD.mono ?_); clear HD; rintro e w20 ⟨tvx, rfl, ht, hb⟩; have R20 := Lib.hid (R6.out.below hb R6.out.lt); have F20 := Lib.hid (F6.out.kept hb); have T20 := Lib.hid (ht.base B6.out.size); have B20 := Lib.hid (B6.out.trans (hb.mono B6.out.size)); have OT2 := Lib.hid (lso_cell ht); have OTC := Lib.hid (lso_cells ht); have TN := Lib.hid (fun z e => (World.ownsRow.lt ht z e).1); clear ht hb)
    | ((with_reducible refine store_cell (o := ⟨none, _, _, _, _, _⟩) rfl _ (.tmp 120) _ rfl gx 3 tvx ?_ ?_ OTC.out OT2.out 44 _ R20.out SZI.out ?_ ?_); (focus go_simp); (focus (first | (go_simp; done) | (go_simp; rfl))); (focus (show 3 < 4; decide)); intro w7 hr hu; have R7 := Lib.hid (show Row w7 gx 44 (fiC s (.slice xa fn xc) yu tvx) from hr); have F7 := Lib.hid (F20.out.keep fun z e => hu.block z (fun e2 => IsTy.ne (fr_tyb F20.out e) R20.out.ty (by decide) e2)); have T7 := Lib.hid (T20.out.keep fun z e => hu.block z (fun e2 => IsTy.ne (lso_ty T20.out e) R20.out.ty (by decide) e2)); have B7 := Lib.hid (B20.out.trans (hu.below GXL.out)); have H7 := Lib.hid (H.out.mono B7.out); have c0 := H7.out.rp.k2.1; clear hr hu)
    | (at_builtin; (with_reducible refine append_fi (o := ⟨some 126, _, _, _, _, _⟩) rfl _ _ rfl w7.heap.size (.slice none 0 0) [] ?_ (LsF.nil _ _) (some ⟨b0, off, none⟩) n c Y ?_ H7.out.ls (by simp; omega) (Nat.le_refl _) ?_); (focus (first | (go_simp; done) | (go_simp; rfl))); (focus (first | (go_simp; done) | (go_simp; rfl))); intro v8 w8 hN hb2 hg2 hv2; have O8 := Lib.hid (show LsF w8 w7.heap.size v8 Y from hN); have D8 := Lib.hid hb2; have OV := Lib.hid (lso_cells O8.out.own); have OW := Lib.hid (lso_cell O8.out.own); have RQ := Lib.hid (H7.out.mono hb2).rp; clear hN hb2 hg2 hv2 c0)
    | ((with_reducible refine store_cell (o := ⟨none, _, _, _, _, _⟩) rfl _ (.tmp 128) _ rfl q 0 v8 ?_ ?_ OV.out OW.out 68 _ RQ.out size_fis ?_ ?_); (focus go_simp); (focus (first | (go_simp; done) | (go_simp; rfl))); (focus (show 0 < 2; decide)); intro w9 hr hu; have R9 := Lib.hid hr; have U9 := Lib.hid hu; clear hr hu))
  have O9 := Lib.hid (O8.out.upd RQ.out (fun e => IsTy.ne (lso_ty O8.out.own e) RQ.out.ty (by decide) rfl) (by decide) (by decide) U9.out)
  have R79 := Lib.hid (((R7.out.below D8.out R7.out.lt).upd U9.out (fun e => IsTy.ne R7.out.ty H7.out.rp.ty (by decide) e)))
  have F79 := Lib.hid ((F7.out.kept D8.out).keep fun z e => U9.out.block z (fun e2 => IsTy.ne (fr_tyb (F7.out.kept D8.out) e) RQ.out.ty (by decide) e2))
  have T79 := Lib.hid ((T7.out.kept D8.out).keep fun z e => U9.out.block z (fun e2 => IsTy.ne (lso_ty (T7.out.kept D8.out) e) RQ.out.ty (by decide) e2))
  obtain ⟨g8, c8, hv8⟩ : ∃ g8 c8, v8 = .slice (some ⟨g8, 0, none⟩) Y.length c8 := by
    rcases O9.out.own.2 with ⟨-, h1⟩ | ⟨g8, c8, cur, h1, -⟩
    · have := HL.out; omega
    · exact ⟨g8, c8, h1⟩
  rw [HL.out] at hv8
  subst hv8
  have hlk : k < Y.length := by rw [HL.out]; exact hkn
  obtain ⟨z, hzf, hzr, hzc, hzb, hzt⟩ := fy_made (s := s) (su := yu) F79.out T79.out TSI.out SSZ.out (by rw [HFN.out]; omega) HFY.out.su TLE.out
  obtain ⟨cur, hrow, hcf, hnew⟩ := LsO.set fiOk O9.out.own k hlk z
  replace hcf : k * 4 + (fiC s (.slice xa fn xc) yu tvx).length ≤ cur.length := hcf
  have hnew2 : ∀ w', Row w' g8 44 (splice cur (k * 4) (fiC s (.slice xa fn xc) yu tvx)) → LsO fiE w' w7.heap.size (.slice (some ⟨g8, 0, none⟩) n c8) (Y.set k z) := fun w' hr => hnew w' (by have e : fiE.cells z = fiC s (.slice xa fn xc) yu tvx := hzc.symm; rw [e]; exact hr)
  have HROW := Lib.hid hrow
  have HCF := Lib.hid hcf
  have HNEW := Lib.hid hnew2
  have ZR := Lib.hid hzr
  have ZF := Lib.hid hzf
  have ZB := Lib.hid hzb
  have ZT := Lib.hid hzt
  have G8 := Lib.hid (show w7.heap.size ≤ g8 from (World.ownsRow.lt O9.out.own g8 rfl).1)
  have G8T := Lib.hid (show IsTy w9 g8 44 from lso_ty O9.out.own rfl)
  have G8N := Lib.hid (show g8 ≠ gx from fun e => absurd R7.out.lt (Nat.not_lt.2 (e ▸ G8.out)))
  clear hlk hzf hzr hzc hzb hzt hrow hcf hnew hnew2
  have D9 : Hid (Below w9.heap.size w9 w9.drew) := Lib.hid (Below.refl _ _).drew
  refine region_t (fun v => Below w9.heap.size w9 v) 7 (by kernel_rfl) (by kernel_rfl) (by kernel_rfl) D9.out ?_
  obtain ⟨we, hwe⟩ : ∃ we, w9.drew = we := ⟨_, rfl⟩
  rw [hwe] at D9 ⊢
  clear hwe
  (refine t_read 0 rfl (by kernel_rfl) (by kernel_rfl) (by kernel_rfl) (t_free rfl) ?_ ?_ ?_; rotate_left; (focus (intro v hv; go_simp; rfl)); go_simp)
  (refine t_read 1 rfl (by kernel_rfl) (by kernel_rfl) (by kernel_rfl) (t_free rfl) ?_ ?_ ?_; rotate_left; (focus (intro v hv; go_simp; rfl)); go_simp)
  (refine t_read 2 rfl (by kernel_rfl) (by kernel_rfl) (by kernel_rfl) (t_free rfl) ?_ ?_ ?_; rotate_left; (focus (intro v hv; go_simp; rfl)); go_simp)
  (refine t_read 3 rfl (by kernel_rfl) (by kernel_rfl) (by kernel_rfl) (t_free rfl) ?_ ?_ ?_; rotate_left; (focus (intro v hv; have c9 := (hv.cell (p := ⟨q, 0, none⟩) R9.out.lt).trans R9.out.k2.1; go_simp; rfl)); go_simp)
  (refine t_read 4 rfl (by kernel_rfl) (by kernel_rfl) (by kernel_rfl) (t_free rfl) ?_ ?_ ?_; rotate_left; (focus (intro v hv; go_simp; rfl)); go_simp)
  (refine t_read 5 rfl (by kernel_rfl) (by kernel_rfl) (by kernel_rfl) (t_free rfl) ?_ ?_ ?_; rotate_left; (focus (intro v hv; refine lg_all 44 (.tmp 12) ?_ gx ?_ _ _ _ (R79.out.below hv R79.out.lt) Tryz.underlying44 rfl SZ.out; (focus rfl); (focus go_simp))); go_simp)
  (refine t_read 6 rfl (by kernel_rfl) (by kernel_rfl) (by kernel_rfl) (t_free rfl) ?_ ?_ ?_; rotate_left; (focus (intro v hv; go_simp; rfl)); go_simp)
  (refine t_last 7 rfl (by kernel_rfl) rfl (by kernel_rfl) (by kernel_rfl) ?_; intro K hK)
  refine store_prt rfl _ _ _ rfl g8 (k * 4) (fiC s (.slice xa fn xc) yu tvx) (by go_simp) (by go_simp; first | done | rfl) 44 cur (HROW.out.below D9.out HROW.out.lt) SZ.out HCF.out (fi_one _ _ _ _ OB.out OT2.out) ?_
  intro w10 hr hu
  have N10 := Lib.hid (HNEW.out w10 hr)
  have U10 := Lib.hid hu
  clear hr hu
  refine hK _ _ ?_
  go_simp
  go_wp2_with fail
  go_ret2
  have z7 := B7.out.size
  have z8 := D8.out.size
  have z9 : w9.heap.size = w8.heap.size := U9.out.size
  have z10 := D9.out.size
  have z11 : w10.heap.size = we.heap.size := U10.out.size
  have g8g := G8.out
  have g8l := G8T.out.lt
  have fit : ∀ y ∈ Y.set k z, FYr w10 y := fun y hy => by
    have h1 : FYr w9 y := by
      rcases List.mem_or_eq_of_mem_set hy with h1 | rfl
      · exact O9.out.fit y h1
      · exact ZR.out
    exact (h1.mono D9.out).upd (HROW.out.below D9.out HROW.out.lt) (by decide) (by decide) U10.out
  have RQ10 : Row w10 q 68 [.slice (some ⟨g8, 0, none⟩) n c8, .int .i64 most] := (R9.out.below D9.out R9.out.lt).upd U10.out (fun e => IsTy.ne G8T.out R9.out.ty (by decide) e.symm)
  obtain ⟨a', c', e1, X10⟩ := XK.make RQ10 ⟨N10.out, fit⟩ (fun k => T k ∨ (w.heap.size ≤ k ∧ k < w10.heap.size)) (.inl H.out.Tq) (fun k hk => hk.elim (fun h => by have := H.out.lt k h; omega) (·.2)) (fun x hx => by have hx2 : g8 = x := Option.some.inj hx; subst hx2; exact .inr ⟨by omega, by omega⟩)
    (fun y hy b off s e => by
      have hl := ((fit y hy).kb b off s e).lt
      rcases List.mem_or_eq_of_mem_set hy with h1 | rfl
      · exact .inl (H.out.Tb y h1 b off s e)
      · exact .inr ⟨ZB.out b off s e, hl⟩)
    (fun y hy b off s e => by
      have hl := ((fit y hy).kt b off s e).lt
      rcases List.mem_or_eq_of_mem_set hy with h1 | rfl
      · exact .inl (H.out.Tt y h1 b off s e)
      · exact .inr ⟨ZT.out b off s e, hl⟩)
  rw [List.length_set, HL.out] at X10
  have F1 : Ft (fun k => k = q) w w9 := (Ft.of_below (B7.out.trans (D8.out.mono B7.out.size))).on (Ft.of_upd (F := fun k => k = q) U9.out rfl) (fun b hb => .inl hb)
  have F2 : Ft (fun k => k = q) w w10 := (F1.trans (Ft.of_below D9.out)).on (Ft.of_upd (F := fun k => k = g8) U10.out rfl) (fun b hb => .inr (by subst hb; omega))
  refine ⟨rfl, a', n, c', Y.set k z, ?_, X10, F2⟩
  rw [List.map_set, ZF.out]
  refine (putL_set (f := ⟨s, yb, yu, timedL yt time⟩) HRIS.out (k := k) (g := ⟨s, yb, yu, yt⟩) ?_ rfl).symm
  rw [List.getElem?_map, HYK.out]; rfl
set_option maxRecDepth 100000 in
set_option maxHeartbeats 16000000 in
theorem xcput_exists {w : World} {q n c : Nat} {most : Int} {a : Option Addr} {Y : List FY} {T : Nat → Prop} (ba : Option Addr) (bn bc : Nat) (b : List UInt8) (time : Int) (h : XK w q most a n c Y T) (hn : n ≤ 524288) (h256 : ∀ y ∈ Y, y.f.b.length ≤ 256) (hus : usedC (Y.map (·.f)) ≤ 524288) (hmost : 0 ≤ most ∧ most ≤ 524288)
    (hb : Rd w ba bn bc b) (hb1 : 1 ≤ bn ∧ bn ≤ 256) (htm : SI64 time) (hris : RisC (Y.map (·.f))) (k : Nat) (y : FY) (hyk : Y[k]? = some y) (hys : y.f.s = sumOf b) (hat : atI (sumOf b) (Y.map (·.f)) = (k : Int)) (hyt : y.f.t.Pairwise (· < ·)) (hyl : y.f.t.length ≤ 900) (hdiff : y.f.b ≠ b) (hint : intactC y.f = true) :
    Calls Tryz.prog 37 #[.pointer (some ⟨q, 0, none⟩), .slice ba bn bc, .int .i64 time] w fun e w' => e = .returned (.tuple #[.string ⟨#[]⟩, .int .i64 15]) ∧ Below w.heap.size w w' := by
  have HP := Lib.hid (fun w => zwithin (bn : Int) 1 256 w)
  rw [show in64 (bn : Int) 1 256 = true by unfold in64; simp; omega] at HP
  have HSU := Lib.hid (rsum_any ba bn bc b w hb (by omega))
  have HAT := Lib.hid (fun w' (hw : Below w.heap.size w w') => xcat (sumOf b) (h.mono hw) (by omega))
  rw [hat] at HAT
  have HUS := Lib.hid (fun w' (hw : Below w.heap.size w w') => xcused (h.mono hw) hn h256)
  have H := Lib.hid h
  have HL := Lib.hid h.ls.hlen
  have hnc := h.ls.hle
  have hkn : k < n := by rw [← HL.out]; exact (List.getElem?_eq_some_iff.1 hyk).1
  have hym := List.mem_of_getElem? hyk
  have hyb := h256 y hym
  have hub : y.f.b.length ≤ usedC (Y.map (·.f)) := used_mem (List.mem_map.2 ⟨y, hym, rfl⟩)
  obtain ⟨U, hU⟩ : ∃ U, usedC (Y.map (·.f)) = U := ⟨_, rfl⟩
  rw [hU] at HUS hus hub
  obtain ⟨b0, off, y2, rfl, hy2, hc, hf⟩ := h.ls.at fiOk (Below.refl _ _) k hkn
  obtain rfl : y = y2 := by rw [hyk] at hy2; exact Option.some.inj hy2
  have HCE := Lib.hid (show ∀ j v, y.cells[j]? = some v → w.cell? ⟨b0, off + k * 4 + j, none⟩ = some v from hc)
  have LTB := Lib.hid (show b0 < w.heap.size from h.lt _ (h.Ta b0 off none rfl).1)
  have HFY := Lib.hid hf
  have ssz : (sumOf b).size ≤ 1000000 := by rw [sumOf_size]; decide
  obtain ⟨s, hs⟩ : ∃ s, sumOf b = s := ⟨_, rfl⟩
  replace HSU : Hid (Calls Tryz.prog 20 #[.slice ba bn bc] w fun e w' => e = .returned (.string s) ∧ Below w.heap.size w w') := Lib.hid (by rw [← hs]; exact HSU.out)
  rw [hs] at HAT ssz hys
  have HBL := Lib.hid hb.hlen
  have HB := Lib.hid hb
  have SZ := Lib.hid file_size
  have FZ := Lib.hid file_zero
  have STM := Lib.hid htm
  have SSZ := Lib.hid ssz
  have HSS := Lib.hid hs
  have HRIS := Lib.hid hris
  have HYK := Lib.hid hyk
  have HYT := Lib.hid hyt
  have HYL := Lib.hid hyl
  have HYB := Lib.hid hyb
  have g1 : (0 : Int) ≤ (k : Int) := by omega
  have g2 : (k : Int) < (n : Int) := by omega
  clear h hb hat hU hs h256 htm ssz hris hyk hyt hyl hyb hc hf hy2 hym
  obtain ⟨⟨ys, yb, yu, yt⟩, fa, fn, fc, ta, tn, tc⟩ := y
  dsimp only at hys hub HYT HYL HYB HYK HCE HFY hdiff hint ⊢
  obtain rfl : s = ys := hys.symm
  replace HCE : Hid (∀ j v, (fiC s (.slice fa fn fc) yu (.slice ta tn tc))[j]? = some v → w.cell? ⟨b0, off + k * 4 + j, none⟩ = some v) := HCE
  have HFN := Lib.hid (show yb.length = fn from HFY.out.rb.hlen)
  obtain ⟨tl, htl⟩ : ∃ tl, yt.length = tl := ⟨_, rfl⟩
  have HTL := Lib.hid htl
  clear htl
  have hfn : fn ≤ 256 := by rw [← HFN.out]; exact HYB.out
  clear hys
  have eqs : ((str yb).toList == (str b).toList) = false := by
    rw [str_beq]
    simp
    intro e
    apply hdiff
    have := congrArg (fun x : ByteArray => x.data.toList) e
    simpa [str_data] using this
  clear hdiff
  go_enter Tryz.func37, Tryz.ntmps37
  go_wp2_with (first
    | (go_at_call 69; (with_reducible refine (HP.out _).mono ?_); rintro e w1 ⟨rfl, rfl⟩)
    | (go_at_call 20; (with_reducible refine HSU.out.mono ?_); rintro e w2 ⟨rfl, hb⟩; have B2 := Lib.hid hb; have H2 := Lib.hid (H.out.mono hb); have c0 := H2.out.rp.k2.1; have HC2 := Lib.hid (show ∀ j v, (fiC s (.slice fa fn fc) yu (.slice ta tn tc))[j]? = some v → w2.cell? ⟨b0, off + k * 4 + j, none⟩ = some v from fun j v hj => (hb.cell (p := ⟨b0, off + k * 4 + j, none⟩) LTB.out).trans (HCE.out j v hj)); have HFY2 := Lib.hid (HFY.out.mono hb); have HB2 := Lib.hid (HB.out.mono hb); clear hb)
    | (go_at_call 70; (with_reducible refine (HAT.out _ B2.out).mono ?_); rintro e w3 ⟨rfl, rfl⟩)
    | ((with_reducible refine load_cells (o := ⟨some 88, _, _, _, _, _⟩) rfl _ _ rfl b0 (off + k * 4) ?_ (fiC s (.slice fa fn fc) yu (.slice ta tn tc)) _ HC2.out Tryz.underlying44 ?_ ?_ ?_); (focus go_simp); (focus rfl); (focus (exact SZ.out)))
    | (go_at_call 49; have HD := xccopied ⟨⟨s, yb, yu, yt⟩, fa, fn, fc, ta, tn, tc⟩ w2 HFY2.out; (with_reducible refine HD.mono ?_); clear HD; rintro e w4 ⟨bv, tv, rfl, hf, ht, hb⟩; have B4 := Lib.hid (B2.out.trans (hb.mono B2.out.size)); have F4 := Lib.hid (hf.base B2.out.size); have T4 := Lib.hid (ht.base B2.out.size); have OB := Lib.hid (fr_one hf); have OT := Lib.hid (lso_cell ht); have HB4 := Lib.hid (HB2.out.mono hb); clear hf ht hb c0)
    | ((with_reducible refine alloc_row (o := ⟨some 12, _, _, _, _, _⟩) rfl _ rfl _ FZ.out ?_); intro w5 hr hb hz; have R5 := Lib.hid hr; have F5 := Lib.hid (F4.out.kept hb); have T5 := Lib.hid (T4.out.kept hb); have B5 := Lib.hid (B4.out.trans (hb.mono B4.out.size)); have HB5 := Lib.hid (HB4.out.mono hb); clear hr hb hz)
    | ((with_reducible refine store_row (o := ⟨none, _, _, _, _, _⟩) rfl _ (.tmp 12) _ rfl w4.heap.size (fiC s bv yu tv) ?_ ?_ 44 _ R5.out ?_ ?_ ?_ ?_); (focus go_simp); (focus (first | (go_simp; done) | (go_simp; rfl))); (focus (exact SZ.out)); (focus rfl); (focus (exact fi_one _ _ _ _ OB.out OT.out)); intro w6 hr hu; have R6 := Lib.hid hr; have F6 := Lib.hid (F5.out.keep fun z e => hu.block z (Nat.ne_of_lt (F4.out.blt e))); have T6 := Lib.hid (T5.out.keep fun z e => hu.block z (Nat.ne_of_lt (T4.out.blt e))); have B6 := Lib.hid (B5.out.trans (hu.below B4.out.size)); have L6 := Lib.hid (show w.heap.size ≤ w4.heap.size from B4.out.size); obtain ⟨xa, xc, hbv, hrd⟩ := F6.out.form' fn HFN.out; subst hbv; have X6 := Lib.hid hrd; have Y6 := Lib.hid (HB.out.mono B6.out); have q1 := hr.k4.2.1; have cv1 := conv_rd hrd; have cv2 := conv_rd Y6.out; obtain ⟨xt, xtc, htv, hlt0, -⟩ := T6.out.ls intOk HFY.out.rt.hfit; rw [HTL.out] at htv hlt0; subst htv; have q3 := R6.out.k4.2.2.2; have TL6 := Lib.hid hlt0; clear hr hu hrd hlt0)
    | ((with_reducible refine load_row (o := ⟨some 96, _, _, _, _, _⟩) rfl _ _ rfl w4.heap.size ?_ _ (fiC s (.slice xa fn xc) yu (.slice xt tl xtc)) _ R6.out Tryz.underlying44 rfl ?_ ?_); (focus go_simp); (focus (exact SZ.out))))
  obtain ⟨gx, hgx⟩ : ∃ gx, w4.heap.size = gx := ⟨_, rfl⟩
  rw [hgx] at R6 L6 q1 ⊢
  have GXL := Lib.hid (show w.heap.size ≤ gx from L6.out)
  clear hgx
  have SZI := Lib.hid size_ints
  have TSI := Lib.hid (show ∀ x ∈ timedL yt time, SI64 x from fun x hx => (timedL_mem yt time x).1 hx |>.elim (fun e => e ▸ STM.out) (fun h => HFY.out.rt.hfit x h))
  have TLE := Lib.hid (show (timedL yt time).length ≤ 1000 from Nat.le_trans (timedL_len yt time) (by have := HYL.out; omega))
  obtain ⟨z0, hzf, hzr, hzc, -, -⟩ := fy_made (s := s) (su := yu) F6.out T6.out HFY.out.rt.hfit SSZ.out (by rw [HFN.out]; omega) HFY.out.su (by have := HYL.out; omega)
  have HI := Lib.hid (show Calls Tryz.prog 26 #[.agg (fiC s (.slice xa fn xc) yu (.slice xt tl xtc)).toArray] w6 fun e w' => e = .returned (.bool true) ∧ Below w6.heap.size w6 w' by
    rw [hzc]; have := xcintact z0 w6 hzr; rw [hzf, hint] at this; exact this)
  clear hzf hzr hzc hint
  go_wp2_with (first
    | (go_at_call 26; (with_reducible refine HI.out.mono ?_); rintro e w7 ⟨rfl, hb⟩; have B7 := Lib.hid (B6.out.trans (hb.mono B6.out.size)); have R7 := Lib.hid (R6.out.below hb R6.out.lt); have F7 := Lib.hid (F6.out.kept hb); have T7 := Lib.hid (T6.out.kept hb); have Y7 := Lib.hid (Y6.out.mono hb); have TL7 := Lib.hid (TL6.out.mono intOk hb); clear hb q1 q3))
  go_ret2
  exact ⟨rfl, B7.out⟩
set_option maxRecDepth 100000 in
set_option maxHeartbeats 16000000 in
theorem xcput_full2 {w : World} {q n c : Nat} {most : Int} {a : Option Addr} {Y : List FY} {T : Nat → Prop} (ba : Option Addr) (bn bc : Nat) (b : List UInt8) (time : Int) (h : XK w q most a n c Y T) (hn : n ≤ 524288) (h256 : ∀ y ∈ Y, y.f.b.length ≤ 256) (hus : usedC (Y.map (·.f)) ≤ 524288) (hmost : 0 ≤ most ∧ most ≤ 524288)
    (hb : Rd w ba bn bc b) (hb1 : 1 ≤ bn ∧ bn ≤ 256) (htm : SI64 time) (hris : RisC (Y.map (·.f))) (k : Nat) (y : FY) (hyk : Y[k]? = some y) (hys : y.f.s = sumOf b) (hat : atI (sumOf b) (Y.map (·.f)) = (k : Int)) (hyt : y.f.t.Pairwise (· < ·)) (hyl : y.f.t.length ≤ 900) (hdiff : y.f.b ≠ b) (hint : intactC y.f = false) (hroom : most < (usedC (Y.map (·.f)) : Int) - y.f.b.length + b.length) :
    Calls Tryz.prog 37 #[.pointer (some ⟨q, 0, none⟩), .slice ba bn bc, .int .i64 time] w fun e w' => e = .returned (.tuple #[.string ⟨#[]⟩, .int .i64 7]) ∧ Below w.heap.size w w' := by
  have HP := Lib.hid (fun w => zwithin (bn : Int) 1 256 w)
  rw [show in64 (bn : Int) 1 256 = true by unfold in64; simp; omega] at HP
  have HSU := Lib.hid (rsum_any ba bn bc b w hb (by omega))
  have HAT := Lib.hid (fun w' (hw : Below w.heap.size w w') => xcat (sumOf b) (h.mono hw) (by omega))
  rw [hat] at HAT
  have HUS := Lib.hid (fun w' (hw : Below w.heap.size w w') => xcused (h.mono hw) hn h256)
  have H := Lib.hid h
  have HL := Lib.hid h.ls.hlen
  have hnc := h.ls.hle
  have hkn : k < n := by rw [← HL.out]; exact (List.getElem?_eq_some_iff.1 hyk).1
  have hym := List.mem_of_getElem? hyk
  have hyb := h256 y hym
  have hub : y.f.b.length ≤ usedC (Y.map (·.f)) := used_mem (List.mem_map.2 ⟨y, hym, rfl⟩)
  obtain ⟨U, hU⟩ : ∃ U, usedC (Y.map (·.f)) = U := ⟨_, rfl⟩
  rw [hU] at HUS hus hub hroom
  obtain ⟨b0, off, y2, rfl, hy2, hc, hf⟩ := h.ls.at fiOk (Below.refl _ _) k hkn
  obtain rfl : y = y2 := by rw [hyk] at hy2; exact Option.some.inj hy2
  have HCE := Lib.hid (show ∀ j v, y.cells[j]? = some v → w.cell? ⟨b0, off + k * 4 + j, none⟩ = some v from hc)
  have LTB := Lib.hid (show b0 < w.heap.size from h.lt _ (h.Ta b0 off none rfl).1)
  have HFY := Lib.hid hf
  have ssz : (sumOf b).size ≤ 1000000 := by rw [sumOf_size]; decide
  obtain ⟨s, hs⟩ : ∃ s, sumOf b = s := ⟨_, rfl⟩
  replace HSU : Hid (Calls Tryz.prog 20 #[.slice ba bn bc] w fun e w' => e = .returned (.string s) ∧ Below w.heap.size w w') := Lib.hid (by rw [← hs]; exact HSU.out)
  rw [hs] at HAT ssz hys
  have HBL := Lib.hid hb.hlen
  have HB := Lib.hid hb
  have SZ := Lib.hid file_size
  have FZ := Lib.hid file_zero
  have STM := Lib.hid htm
  have SSZ := Lib.hid ssz
  have HSS := Lib.hid hs
  have HRIS := Lib.hid hris
  have HYK := Lib.hid hyk
  have HYT := Lib.hid hyt
  have HYL := Lib.hid hyl
  have HYB := Lib.hid hyb
  have g1 : (0 : Int) ≤ (k : Int) := by omega
  have g2 : (k : Int) < (n : Int) := by omega
  clear h hb hat hU hs h256 htm ssz hris hyk hyt hyl hyb hc hf hy2 hym
  obtain ⟨⟨ys, yb, yu, yt⟩, fa, fn, fc, ta, tn, tc⟩ := y
  dsimp only at hys hub HYT HYL HYB HYK HCE HFY hdiff hint hroom ⊢
  obtain rfl : s = ys := hys.symm
  replace HCE : Hid (∀ j v, (fiC s (.slice fa fn fc) yu (.slice ta tn tc))[j]? = some v → w.cell? ⟨b0, off + k * 4 + j, none⟩ = some v) := HCE
  have HFN := Lib.hid (show yb.length = fn from HFY.out.rb.hlen)
  obtain ⟨tl, htl⟩ : ∃ tl, yt.length = tl := ⟨_, rfl⟩
  have HTL := Lib.hid htl
  clear htl
  have hfn : fn ≤ 256 := by rw [← HFN.out]; exact HYB.out
  clear hys
  rw [HFN.out, HBL.out] at hroom
  have eqs : ((str yb).toList == (str b).toList) = false := by
    rw [str_beq]
    simp
    intro e
    apply hdiff
    have := congrArg (fun x : ByteArray => x.data.toList) e
    simpa [str_data] using this
  clear hdiff
  go_enter Tryz.func37, Tryz.ntmps37
  go_wp2_with (first
    | (go_at_call 69; (with_reducible refine (HP.out _).mono ?_); rintro e w1 ⟨rfl, rfl⟩)
    | (go_at_call 20; (with_reducible refine HSU.out.mono ?_); rintro e w2 ⟨rfl, hb⟩; have B2 := Lib.hid hb; have H2 := Lib.hid (H.out.mono hb); have c0 := H2.out.rp.k2.1; have HC2 := Lib.hid (show ∀ j v, (fiC s (.slice fa fn fc) yu (.slice ta tn tc))[j]? = some v → w2.cell? ⟨b0, off + k * 4 + j, none⟩ = some v from fun j v hj => (hb.cell (p := ⟨b0, off + k * 4 + j, none⟩) LTB.out).trans (HCE.out j v hj)); have HFY2 := Lib.hid (HFY.out.mono hb); have HB2 := Lib.hid (HB.out.mono hb); clear hb)
    | (go_at_call 70; (with_reducible refine (HAT.out _ B2.out).mono ?_); rintro e w3 ⟨rfl, rfl⟩)
    | ((with_reducible refine load_cells (o := ⟨some 88, _, _, _, _, _⟩) rfl _ _ rfl b0 (off + k * 4) ?_ (fiC s (.slice fa fn fc) yu (.slice ta tn tc)) _ HC2.out Tryz.underlying44 ?_ ?_ ?_); (focus go_simp); (focus rfl); (focus (exact SZ.out)))
    | (go_at_call 49; have HD := xccopied ⟨⟨s, yb, yu, yt⟩, fa, fn, fc, ta, tn, tc⟩ w2 HFY2.out; (with_reducible refine HD.mono ?_); clear HD; rintro e w4 ⟨bv, tv, rfl, hf, ht, hb⟩; have B4 := Lib.hid (B2.out.trans (hb.mono B2.out.size)); have F4 := Lib.hid (hf.base B2.out.size); have T4 := Lib.hid (ht.base B2.out.size); have OB := Lib.hid (fr_one hf); have OT := Lib.hid (lso_cell ht); have HB4 := Lib.hid (HB2.out.mono hb); clear hf ht hb c0)
    | ((with_reducible refine alloc_row (o := ⟨some 12, _, _, _, _, _⟩) rfl _ rfl _ FZ.out ?_); intro w5 hr hb hz; have R5 := Lib.hid hr; have F5 := Lib.hid (F4.out.kept hb); have T5 := Lib.hid (T4.out.kept hb); have B5 := Lib.hid (B4.out.trans (hb.mono B4.out.size)); have HB5 := Lib.hid (HB4.out.mono hb); clear hr hb hz)
    | ((with_reducible refine store_row (o := ⟨none, _, _, _, _, _⟩) rfl _ (.tmp 12) _ rfl w4.heap.size (fiC s bv yu tv) ?_ ?_ 44 _ R5.out ?_ ?_ ?_ ?_); (focus go_simp); (focus (first | (go_simp; done) | (go_simp; rfl))); (focus (exact SZ.out)); (focus rfl); (focus (exact fi_one _ _ _ _ OB.out OT.out)); intro w6 hr hu; have R6 := Lib.hid hr; have F6 := Lib.hid (F5.out.keep fun z e => hu.block z (Nat.ne_of_lt (F4.out.blt e))); have T6 := Lib.hid (T5.out.keep fun z e => hu.block z (Nat.ne_of_lt (T4.out.blt e))); have B6 := Lib.hid (B5.out.trans (hu.below B4.out.size)); have L6 := Lib.hid (show w.heap.size ≤ w4.heap.size from B4.out.size); obtain ⟨xa, xc, hbv, hrd⟩ := F6.out.form' fn HFN.out; subst hbv; have X6 := Lib.hid hrd; have Y6 := Lib.hid (HB.out.mono B6.out); have q1 := hr.k4.2.1; have cv1 := conv_rd hrd; have cv2 := conv_rd Y6.out; obtain ⟨xt, xtc, htv, hlt0, -⟩ := T6.out.ls intOk HFY.out.rt.hfit; rw [HTL.out] at htv hlt0; subst htv; have q3 := R6.out.k4.2.2.2; have TL6 := Lib.hid hlt0; clear hr hu hrd hlt0)
    | ((with_reducible refine load_row (o := ⟨some 96, _, _, _, _, _⟩) rfl _ _ rfl w4.heap.size ?_ _ (fiC s (.slice xa fn xc) yu (.slice xt tl xtc)) _ R6.out Tryz.underlying44 rfl ?_ ?_); (focus go_simp); (focus (exact SZ.out))))
  obtain ⟨gx, hgx⟩ : ∃ gx, w4.heap.size = gx := ⟨_, rfl⟩
  rw [hgx] at R6 L6 q1 ⊢
  have GXL := Lib.hid (show w.heap.size ≤ gx from L6.out)
  clear hgx
  have SZI := Lib.hid size_ints
  have TSI := Lib.hid (show ∀ x ∈ timedL yt time, SI64 x from fun x hx => (timedL_mem yt time x).1 hx |>.elim (fun e => e ▸ STM.out) (fun h => HFY.out.rt.hfit x h))
  have TLE := Lib.hid (show (timedL yt time).length ≤ 1000 from Nat.le_trans (timedL_len yt time) (by have := HYL.out; omega))
  obtain ⟨z0, hzf, hzr, hzc, -, -⟩ := fy_made (s := s) (su := yu) F6.out T6.out HFY.out.rt.hfit SSZ.out (by rw [HFN.out]; omega) HFY.out.su (by have := HYL.out; omega)
  have HI := Lib.hid (show Calls Tryz.prog 26 #[.agg (fiC s (.slice xa fn xc) yu (.slice xt tl xtc)).toArray] w6 fun e w' => e = .returned (.bool false) ∧ Below w6.heap.size w6 w' by
    rw [hzc]; have := xcintact z0 w6 hzr; rw [hzf, hint] at this; exact this)
  clear hzf hzr hzc hint
  go_wp2_with (first
    | (go_at_call 26; (with_reducible refine HI.out.mono ?_); rintro e w7 ⟨rfl, hb⟩; have B7 := Lib.hid (B6.out.trans (hb.mono B6.out.size)); have R7 := Lib.hid (R6.out.below hb R6.out.lt); have F7 := Lib.hid (F6.out.kept hb); have T7 := Lib.hid (T6.out.kept hb); have Y7 := Lib.hid (Y6.out.mono hb); have TL7 := Lib.hid (TL6.out.mono intOk hb); clear hb q1 q3))
  have hw1 : IntKind.i64.wrap ((U : Int) - (fn : Int)) = (U : Int) - fn := by rw [IntKind.wrap_i64]; omega
  have hw2 : IntKind.i64.wrap ((U : Int) - (fn : Int) + (bn : Int)) = (U : Int) - fn + bn := by rw [IntKind.wrap_i64]; omega
  refine region_h (fun v => Below w7.heap.size w7 v) (by kernel_rfl) (by kernel_rfl) (Below.refl _ _).drew ?_
  have XR := Lib.hid (H.out.mono B7.out)
  (refine h_read 0 rfl (by kernel_rfl) (by kernel_rfl) (h_free rfl) ?_ ?_ ?_; rotate_left; (focus (intro v hv; go_simp; rfl)); go_simp)
  (refine h_read 2 rfl (by kernel_rfl) (by kernel_rfl) (h_free rfl) ?_ ?_ ?_; rotate_left; (focus (intro v hv; go_simp; rfl)); go_simp)
  (refine h_read 3 rfl (by kernel_rfl) (by kernel_rfl) (h_free rfl) ?_ ?_ ?_; rotate_left; (focus (intro v hv; have c1 := (hv.cell (p := ⟨q, 1, none⟩) XR.out.rp.lt).trans XR.out.rp.k2.2; have c2 := (hv.cell (p := ⟨gx, 1, none⟩) R7.out.lt).trans R7.out.k4.2.1; go_simp; rfl)); go_simp)
  (refine h_read 4 rfl (by kernel_rfl) (by kernel_rfl) (h_free rfl) ?_ ?_ ?_; rotate_left; (focus (intro v hv; go_simp; rfl)); go_simp)
  (refine h_read 6 rfl (by kernel_rfl) (by kernel_rfl) (h_free rfl) ?_ ?_ ?_; rotate_left; (focus (intro v hv; go_simp; rfl)); go_simp)
  (refine h_read 7 rfl (by kernel_rfl) (by kernel_rfl) (h_free rfl) ?_ ?_ ?_; rotate_left; (focus (intro v hv; go_simp; rfl)); go_simp)
  (refine h_read 9 rfl (by kernel_rfl) (by kernel_rfl) (h_free rfl) ?_ ?_ ?_; rotate_left; (focus (intro v hv; go_simp; rfl)); go_simp)
  (refine h_read 10 rfl (by kernel_rfl) (by kernel_rfl) (h_free rfl) ?_ ?_ ?_; rotate_left; (focus (intro v hv; go_simp; rfl)); go_simp)
  (refine h_read 11 rfl (by kernel_rfl) (by kernel_rfl) (h_free rfl) ?_ ?_ ?_; rotate_left; (focus (intro v hv; go_simp; rfl)); go_simp)
  (refine h_read 12 rfl (by kernel_rfl) (by kernel_rfl) (h_free rfl) ?_ ?_ ?_; rotate_left; (focus (intro v hv; have c1 := (hv.cell (p := ⟨q, 1, none⟩) XR.out.rp.lt).trans XR.out.rp.k2.2; have c2 := (hv.cell (p := ⟨gx, 1, none⟩) R7.out.lt).trans R7.out.k4.2.1; go_simp; rfl)); go_simp)
  (refine h_call 1 rfl (by kernel_rfl) (h_free rfl) 15 ?_ ?_ ?_; rotate_left; (focus (go_simp; rfl)))
  refine (HUS.out _ (B7.out.drew)).mono ?_
  rintro e w8 ⟨rfl, rfl⟩
  refine ⟨_, rfl, (Below.refl _ _).drew, ?_⟩
  go_simp
  (refine h_read 5 rfl (by kernel_rfl) (by kernel_rfl) (h_free rfl) ?_ ?_ ?_; rotate_left; (focus (intro v hv; go_simp; rfl)); go_simp)
  (refine h_read 8 rfl (by kernel_rfl) (by kernel_rfl) (h_free rfl) ?_ ?_ ?_; rotate_left; (focus (intro v hv; go_simp; rfl)); go_simp)
  (refine h_read 13 rfl (by kernel_rfl) (by kernel_rfl) (h_free rfl) ?_ ?_ ?_; rotate_left; (focus (intro v hv; go_simp; rfl)); go_simp)
  refine h_done (by kernel_rfl) ?_
  go_wp2_with fail
  go_ret2
  exact ⟨rfl, B7.out.drew⟩
set_option maxRecDepth 100000 in
set_option maxHeartbeats 16000000 in
theorem xcput_over {w : World} {q n c : Nat} {most : Int} {a : Option Addr} {Y : List FY} {T : Nat → Prop} (ba : Option Addr) (bn bc : Nat) (b : List UInt8) (time : Int) (h : XK w q most a n c Y T) (hn : n ≤ 524288) (h256 : ∀ y ∈ Y, y.f.b.length ≤ 256) (hus : usedC (Y.map (·.f)) ≤ 524288) (hmost : 0 ≤ most ∧ most ≤ 524288)
    (hb : Rd w ba bn bc b) (hb1 : 1 ≤ bn ∧ bn ≤ 256) (htm : SI64 time) (hris : RisC (Y.map (·.f))) (k : Nat) (y : FY) (hyk : Y[k]? = some y) (hys : y.f.s = sumOf b) (hat : atI (sumOf b) (Y.map (·.f)) = (k : Int)) (hyt : y.f.t.Pairwise (· < ·)) (hyl : y.f.t.length ≤ 900) (hdiff : y.f.b ≠ b) (hint : intactC y.f = false) (hroom : ¬ most < (usedC (Y.map (·.f)) : Int) - y.f.b.length + b.length) :
    Calls Tryz.prog 37 #[.pointer (some ⟨q, 0, none⟩), .slice ba bn bc, .int .i64 time] w fun e w' => e = .returned (.tuple #[.string (sumOf b), .int .i64 0]) ∧ ∃ a' n' c' Z, Z.map (·.f) = putL (Y.map (·.f)) ⟨sumOf b, b, 0, timedL y.f.t time⟩ ∧ XK w' q most a' n' c' Z (fun k => T k ∨ (w.heap.size ≤ k ∧ k < w'.heap.size)) ∧ Ft (fun k => k = q) w w' := by
  have HP := Lib.hid (fun w => zwithin (bn : Int) 1 256 w)
  rw [show in64 (bn : Int) 1 256 = true by unfold in64; simp; omega] at HP
  have HSU := Lib.hid (rsum_any ba bn bc b w hb (by omega))
  have HAT := Lib.hid (fun w' (hw : Below w.heap.size w w') => xcat (sumOf b) (h.mono hw) (by omega))
  rw [hat] at HAT
  have HUS := Lib.hid (fun w' (hw : Below w.heap.size w w') => xcused (h.mono hw) hn h256)
  have H := Lib.hid h
  have HL := Lib.hid h.ls.hlen
  have hnc := h.ls.hle
  have hkn : k < n := by rw [← HL.out]; exact (List.getElem?_eq_some_iff.1 hyk).1
  have hym := List.mem_of_getElem? hyk
  have hyb := h256 y hym
  have hub : y.f.b.length ≤ usedC (Y.map (·.f)) := used_mem (List.mem_map.2 ⟨y, hym, rfl⟩)
  obtain ⟨U, hU⟩ : ∃ U, usedC (Y.map (·.f)) = U := ⟨_, rfl⟩
  rw [hU] at HUS hus hub hroom
  obtain ⟨b0, off, y2, rfl, hy2, hc, hf⟩ := h.ls.at fiOk (Below.refl _ _) k hkn
  obtain rfl : y = y2 := by rw [hyk] at hy2; exact Option.some.inj hy2
  have HCE := Lib.hid (show ∀ j v, y.cells[j]? = some v → w.cell? ⟨b0, off + k * 4 + j, none⟩ = some v from hc)
  have LTB := Lib.hid (show b0 < w.heap.size from h.lt _ (h.Ta b0 off none rfl).1)
  have HFY := Lib.hid hf
  have ssz : (sumOf b).size ≤ 1000000 := by rw [sumOf_size]; decide
  obtain ⟨s, hs⟩ : ∃ s, sumOf b = s := ⟨_, rfl⟩
  replace HSU : Hid (Calls Tryz.prog 20 #[.slice ba bn bc] w fun e w' => e = .returned (.string s) ∧ Below w.heap.size w w') := Lib.hid (by rw [← hs]; exact HSU.out)
  rw [hs] at HAT ssz hys ⊢
  have HBL := Lib.hid hb.hlen
  have HB := Lib.hid hb
  have SZ := Lib.hid file_size
  have FZ := Lib.hid file_zero
  have STM := Lib.hid htm
  have SSZ := Lib.hid ssz
  have HSS := Lib.hid hs
  have HRIS := Lib.hid hris
  have HYK := Lib.hid hyk
  have HYT := Lib.hid hyt
  have HYL := Lib.hid hyl
  have HYB := Lib.hid hyb
  have g1 : (0 : Int) ≤ (k : Int) := by omega
  have g2 : (k : Int) < (n : Int) := by omega
  clear h hb hat hU hs h256 htm ssz hris hyk hyt hyl hyb hc hf hy2 hym
  obtain ⟨⟨ys, yb, yu, yt⟩, fa, fn, fc, ta, tn, tc⟩ := y
  dsimp only at hys hub HYT HYL HYB HYK HCE HFY hdiff hint hroom ⊢
  obtain rfl : s = ys := hys.symm
  replace HCE : Hid (∀ j v, (fiC s (.slice fa fn fc) yu (.slice ta tn tc))[j]? = some v → w.cell? ⟨b0, off + k * 4 + j, none⟩ = some v) := HCE
  have HFN := Lib.hid (show yb.length = fn from HFY.out.rb.hlen)
  obtain ⟨tl, htl⟩ : ∃ tl, yt.length = tl := ⟨_, rfl⟩
  have HTL := Lib.hid htl
  clear htl
  have hfn : fn ≤ 256 := by rw [← HFN.out]; exact HYB.out
  clear hys
  rw [HFN.out, HBL.out] at hroom
  have eqs : ((str yb).toList == (str b).toList) = false := by
    rw [str_beq]
    simp
    intro e
    apply hdiff
    have := congrArg (fun x : ByteArray => x.data.toList) e
    simpa [str_data] using this
  clear hdiff
  go_enter Tryz.func37, Tryz.ntmps37
  go_wp2_with (first
    | (go_at_call 69; (with_reducible refine (HP.out _).mono ?_); rintro e w1 ⟨rfl, rfl⟩)
    | (go_at_call 20; (with_reducible refine HSU.out.mono ?_); rintro e w2 ⟨rfl, hb⟩; have B2 := Lib.hid hb; have H2 := Lib.hid (H.out.mono hb); have c0 := H2.out.rp.k2.1; have HC2 := Lib.hid (show ∀ j v, (fiC s (.slice fa fn fc) yu (.slice ta tn tc))[j]? = some v → w2.cell? ⟨b0, off + k * 4 + j, none⟩ = some v from fun j v hj => (hb.cell (p := ⟨b0, off + k * 4 + j, none⟩) LTB.out).trans (HCE.out j v hj)); have HFY2 := Lib.hid (HFY.out.mono hb); have HB2 := Lib.hid (HB.out.mono hb); clear hb)
    | (go_at_call 70; (with_reducible refine (HAT.out _ B2.out).mono ?_); rintro e w3 ⟨rfl, rfl⟩)
    | ((with_reducible refine load_cells (o := ⟨some 88, _, _, _, _, _⟩) rfl _ _ rfl b0 (off + k * 4) ?_ (fiC s (.slice fa fn fc) yu (.slice ta tn tc)) _ HC2.out Tryz.underlying44 ?_ ?_ ?_); (focus go_simp); (focus rfl); (focus (exact SZ.out)))
    | (go_at_call 49; have HD := xccopied ⟨⟨s, yb, yu, yt⟩, fa, fn, fc, ta, tn, tc⟩ w2 HFY2.out; (with_reducible refine HD.mono ?_); clear HD; rintro e w4 ⟨bv, tv, rfl, hf, ht, hb⟩; have B4 := Lib.hid (B2.out.trans (hb.mono B2.out.size)); have F4 := Lib.hid (hf.base B2.out.size); have T4 := Lib.hid (ht.base B2.out.size); have OB := Lib.hid (fr_one hf); have OT := Lib.hid (lso_cell ht); have HB4 := Lib.hid (HB2.out.mono hb); clear hf ht hb c0)
    | ((with_reducible refine alloc_row (o := ⟨some 12, _, _, _, _, _⟩) rfl _ rfl _ FZ.out ?_); intro w5 hr hb hz; have R5 := Lib.hid hr; have F5 := Lib.hid (F4.out.kept hb); have T5 := Lib.hid (T4.out.kept hb); have B5 := Lib.hid (B4.out.trans (hb.mono B4.out.size)); have HB5 := Lib.hid (HB4.out.mono hb); clear hr hb hz)
    | ((with_reducible refine store_row (o := ⟨none, _, _, _, _, _⟩) rfl _ (.tmp 12) _ rfl w4.heap.size (fiC s bv yu tv) ?_ ?_ 44 _ R5.out ?_ ?_ ?_ ?_); (focus go_simp); (focus (first | (go_simp; done) | (go_simp; rfl))); (focus (exact SZ.out)); (focus rfl); (focus (exact fi_one _ _ _ _ OB.out OT.out)); intro w6 hr hu; have R6 := Lib.hid hr; have F6 := Lib.hid (F5.out.keep fun z e => hu.block z (Nat.ne_of_lt (F4.out.blt e))); have T6 := Lib.hid (T5.out.keep fun z e => hu.block z (Nat.ne_of_lt (T4.out.blt e))); have B6 := Lib.hid (B5.out.trans (hu.below B4.out.size)); have L6 := Lib.hid (show w.heap.size ≤ w4.heap.size from B4.out.size); obtain ⟨xa, xc, hbv, hrd⟩ := F6.out.form' fn HFN.out; subst hbv; have X6 := Lib.hid hrd; have Y6 := Lib.hid (HB.out.mono B6.out); have q1 := hr.k4.2.1; have cv1 := conv_rd hrd; have cv2 := conv_rd Y6.out; obtain ⟨xt, xtc, htv, hlt0, -⟩ := T6.out.ls intOk HFY.out.rt.hfit; rw [HTL.out] at htv hlt0; subst htv; have q3 := R6.out.k4.2.2.2; have TL6 := Lib.hid hlt0; clear hr hu hrd hlt0)
    | ((with_reducible refine load_row (o := ⟨some 96, _, _, _, _, _⟩) rfl _ _ rfl w4.heap.size ?_ _ (fiC s (.slice xa fn xc) yu (.slice xt tl xtc)) _ R6.out Tryz.underlying44 rfl ?_ ?_); (focus go_simp); (focus (exact SZ.out))))
  obtain ⟨gx, hgx⟩ : ∃ gx, w4.heap.size = gx := ⟨_, rfl⟩
  rw [hgx] at R6 L6 q1 ⊢
  have GXL := Lib.hid (show w.heap.size ≤ gx from L6.out)
  clear hgx
  have SZI := Lib.hid size_ints
  have TSI := Lib.hid (show ∀ x ∈ timedL yt time, SI64 x from fun x hx => (timedL_mem yt time x).1 hx |>.elim (fun e => e ▸ STM.out) (fun h => HFY.out.rt.hfit x h))
  have TLE := Lib.hid (show (timedL yt time).length ≤ 1000 from Nat.le_trans (timedL_len yt time) (by have := HYL.out; omega))
  obtain ⟨z0, hzf, hzr, hzc, -, -⟩ := fy_made (s := s) (su := yu) F6.out T6.out HFY.out.rt.hfit SSZ.out (by rw [HFN.out]; omega) HFY.out.su (by have := HYL.out; omega)
  have HI := Lib.hid (show Calls Tryz.prog 26 #[.agg (fiC s (.slice xa fn xc) yu (.slice xt tl xtc)).toArray] w6 fun e w' => e = .returned (.bool false) ∧ Below w6.heap.size w6 w' by
    rw [hzc]; have := xcintact z0 w6 hzr; rw [hzf, hint] at this; exact this)
  clear hzf hzr hzc hint
  go_wp2_with (first
    | (go_at_call 26; (with_reducible refine HI.out.mono ?_); rintro e w7 ⟨rfl, hb⟩; have B7 := Lib.hid (B6.out.trans (hb.mono B6.out.size)); have R7 := Lib.hid (R6.out.below hb R6.out.lt); have F7 := Lib.hid (F6.out.kept hb); have T7 := Lib.hid (T6.out.kept hb); have Y7 := Lib.hid (Y6.out.mono hb); have TL7 := Lib.hid (TL6.out.mono intOk hb); clear hb q1 q3))
  have hw1 : IntKind.i64.wrap ((U : Int) - (fn : Int)) = (U : Int) - fn := by rw [IntKind.wrap_i64]; omega
  have hw2 : IntKind.i64.wrap ((U : Int) - (fn : Int) + (bn : Int)) = (U : Int) - fn + bn := by rw [IntKind.wrap_i64]; omega
  refine region_h (fun v => Below w7.heap.size w7 v) (by kernel_rfl) (by kernel_rfl) (Below.refl _ _).drew ?_
  have XR := Lib.hid (H.out.mono B7.out)
  (refine h_read 0 rfl (by kernel_rfl) (by kernel_rfl) (h_free rfl) ?_ ?_ ?_; rotate_left; (focus (intro v hv; go_simp; rfl)); go_simp)
  (refine h_read 2 rfl (by kernel_rfl) (by kernel_rfl) (h_free rfl) ?_ ?_ ?_; rotate_left; (focus (intro v hv; go_simp; rfl)); go_simp)
  (refine h_read 3 rfl (by kernel_rfl) (by kernel_rfl) (h_free rfl) ?_ ?_ ?_; rotate_left; (focus (intro v hv; have c1 := (hv.cell (p := ⟨q, 1, none⟩) XR.out.rp.lt).trans XR.out.rp.k2.2; have c2 := (hv.cell (p := ⟨gx, 1, none⟩) R7.out.lt).trans R7.out.k4.2.1; go_simp; rfl)); go_simp)
  (refine h_read 4 rfl (by kernel_rfl) (by kernel_rfl) (h_free rfl) ?_ ?_ ?_; rotate_left; (focus (intro v hv; go_simp; rfl)); go_simp)
  (refine h_read 6 rfl (by kernel_rfl) (by kernel_rfl) (h_free rfl) ?_ ?_ ?_; rotate_left; (focus (intro v hv; go_simp; rfl)); go_simp)
  (refine h_read 7 rfl (by kernel_rfl) (by kernel_rfl) (h_free rfl) ?_ ?_ ?_; rotate_left; (focus (intro v hv; go_simp; rfl)); go_simp)
  (refine h_read 9 rfl (by kernel_rfl) (by kernel_rfl) (h_free rfl) ?_ ?_ ?_; rotate_left; (focus (intro v hv; go_simp; rfl)); go_simp)
  (refine h_read 10 rfl (by kernel_rfl) (by kernel_rfl) (h_free rfl) ?_ ?_ ?_; rotate_left; (focus (intro v hv; go_simp; rfl)); go_simp)
  (refine h_read 11 rfl (by kernel_rfl) (by kernel_rfl) (h_free rfl) ?_ ?_ ?_; rotate_left; (focus (intro v hv; go_simp; rfl)); go_simp)
  (refine h_read 12 rfl (by kernel_rfl) (by kernel_rfl) (h_free rfl) ?_ ?_ ?_; rotate_left; (focus (intro v hv; have c1 := (hv.cell (p := ⟨q, 1, none⟩) XR.out.rp.lt).trans XR.out.rp.k2.2; have c2 := (hv.cell (p := ⟨gx, 1, none⟩) R7.out.lt).trans R7.out.k4.2.1; go_simp; rfl)); go_simp)
  (refine h_call 1 rfl (by kernel_rfl) (h_free rfl) 15 ?_ ?_ ?_; rotate_left; (focus (go_simp; rfl)))
  refine (HUS.out _ (B7.out.drew)).mono ?_
  rintro e w8 ⟨rfl, rfl⟩
  refine ⟨_, rfl, (Below.refl _ _).drew, ?_⟩
  go_simp
  (refine h_read 5 rfl (by kernel_rfl) (by kernel_rfl) (h_free rfl) ?_ ?_ ?_; rotate_left; (focus (intro v hv; go_simp; rfl)); go_simp)
  (refine h_read 8 rfl (by kernel_rfl) (by kernel_rfl) (h_free rfl) ?_ ?_ ?_; rotate_left; (focus (intro v hv; go_simp; rfl)); go_simp)
  (refine h_read 13 rfl (by kernel_rfl) (by kernel_rfl) (h_free rfl) ?_ ?_ ?_; rotate_left; (focus (intro v hv; go_simp; rfl)); go_simp)
  refine h_done (by kernel_rfl) ?_
  have B8 := Lib.hid B7.out.drew
  obtain ⟨w8, hw8⟩ : ∃ x, w7.drew = x := ⟨_, rfl⟩
  have D78 := Lib.hid (show Below w7.heap.size w7 w8 by rw [← hw8]; exact (Below.refl _ _).drew)
  rw [hw8] at B8 ⊢
  clear hw8 hw1 hw2
  have R8 := Lib.hid (R7.out.below D78.out R7.out.lt)
  have F8 := Lib.hid (F7.out.kept D78.out)
  have T8 := Lib.hid (T7.out.kept D78.out)
  have Y8 := Lib.hid (Y7.out.mono D78.out)
  go_wp2_with (first
    | (at_builtin; (with_reducible refine append_rd (o := ⟨some 113, _, _, _, _, _⟩) rfl _ _ rfl w.heap.size (.slice none 0 0) [] ?_ (Fr.nil _ _) ba bn bc b ?_ Y8.out ?_ B8.out.size ?_); (focus (first | (go_simp; done) | (go_simp; rfl))); (focus (first | (go_simp; done) | (go_simp; rfl))); (focus (simp; omega)); intro bvx w9 hf hb hgr; have F9 := Lib.hid (show Fr w9 w.heap.size bvx b from hf); have R9 := Lib.hid (R8.out.below (below_none hgr) R8.out.lt); have T9 := Lib.hid (T8.out.kept (below_none hgr)); have B9 := Lib.hid (B8.out.trans hb); have OB9 := Lib.hid (fr_one hf); have OC9 := Lib.hid (fr_cell hf); clear hf hb hgr)
    | ((with_reducible refine store_cell (o := ⟨none, _, _, _, _, _⟩) rfl _ (.tmp 114) _ rfl gx 1 bvx ?_ ?_ OC9.out OB9.out 44 _ R9.out size_bytes ?_ ?_); (focus go_simp); (focus (first | (go_simp; done) | (go_simp; rfl))); (focus (show 1 < 4; decide)); intro w10 hr hu; have R10 := Lib.hid (show Row w10 gx 44 (fiC s bvx yu (.slice xt tl xtc)) from hr); have F10 := Lib.hid (F9.out.keep fun z e => hu.block z (fun e2 => IsTy.ne (fr_tyb F9.out e) R9.out.ty (by decide) e2)); have T10 := Lib.hid (T9.out.keep fun z e => hu.block z (fun e2 => IsTy.ne (lso_ty T9.out e) R9.out.ty (by decide) e2)); have B10 := Lib.hid (B9.out.trans (hu.below GXL.out)); clear hr hu)
    | ((with_reducible refine store_cell (o := ⟨none, _, _, _, _, _⟩) rfl _ (.tmp 115) _ rfl gx 2 (.int .i64 0) ?_ ?_ rfl rfl 44 _ R10.out int_size ?_ ?_); (focus go_simp); (focus (first | (go_simp; done) | (go_simp; rfl))); (focus (show 2 < 4; decide)); intro w11 hr hu; have R11 := Lib.hid (show Row w11 gx 44 (fiC s bvx 0 (.slice xt tl xtc)) from hr); have F11 := Lib.hid (F10.out.keep fun z e => hu.block z (fun e2 => IsTy.ne (fr_tyb F10.out e) R10.out.ty (by decide) e2)); have T11 := Lib.hid (T10.out.keep fun z e => hu.block z (fun e2 => IsTy.ne (lso_ty T10.out e) R10.out.ty (by decide) e2)); have B11 := Lib.hid (B10.out.trans (hu.below GXL.out)); have TL11 := Lib.hid (ls_of_lso T11.out HFY.out.rt.hfit HTL.out); have q3 := R11.out.k4.2.2.2; clear hr hu))
  go_wp2_with (first
    | (go_at_call 71; have HD := xctimed xt tl xtc yt time _ TL11.out HYT.out (by have := HYL.out; have := HTL.out; omega) STM.out; (with_reducible refine HD.mono ?_); clear HD; rintro e w20 ⟨tvx, rfl, ht, hb⟩; have R20 := Lib.hid (R11.out.below hb R11.out.lt); have F20 := Lib.hid (F11.out.kept hb); have T20 := Lib.hid (ht.base B11.out.size); have B20 := Lib.hid (B11.out.trans (hb.mono B11.out.size)); have OT2 := Lib.hid (lso_cell ht); have OTC := Lib.hid (lso_cells ht); have TN := Lib.hid (fun z e => (World.ownsRow.lt ht z e).1); clear ht hb)
    | ((with_reducible refine store_cell (o := ⟨none, _, _, _, _, _⟩) rfl _ (.tmp 120) _ rfl gx 3 tvx ?_ ?_ OTC.out OT2.out 44 _ R20.out SZI.out ?_ ?_); (focus go_simp); (focus (first | (go_simp; done) | (go_simp; rfl))); (focus (show 3 < 4; decide)); intro w7 hr hu; have R7 := Lib.hid (show Row w7 gx 44 (fiC s bvx 0 tvx) from hr); have F7 := Lib.hid (F20.out.keep fun z e => hu.block z (fun e2 => IsTy.ne (fr_tyb F20.out e) R20.out.ty (by decide) e2)); have T7 := Lib.hid (T20.out.keep fun z e => hu.block z (fun e2 => IsTy.ne (lso_ty T20.out e) R20.out.ty (by decide) e2)); have B7 := Lib.hid (B20.out.trans (hu.below GXL.out)); have H7 := Lib.hid (H.out.mono B7.out); have c0 := H7.out.rp.k2.1; clear hr hu)
    | (at_builtin; (with_reducible refine append_fi (o := ⟨some 126, _, _, _, _, _⟩) rfl _ _ rfl w7.heap.size (.slice none 0 0) [] ?_ (LsF.nil _ _) (some ⟨b0, off, none⟩) n c Y ?_ H7.out.ls (by simp; omega) (Nat.le_refl _) ?_); (focus (first | (go_simp; done) | (go_simp; rfl))); (focus (first | (go_simp; done) | (go_simp; rfl))); intro v8 w8 hN hb2 hg2 hv2; have O8 := Lib.hid (show LsF w8 w7.heap.size v8 Y from hN); have D8 := Lib.hid hb2; have OV := Lib.hid (lso_cells O8.out.own); have OW := Lib.hid (lso_cell O8.out.own); have RQ := Lib.hid (H7.out.mono hb2).rp; clear hN hb2 hg2 hv2 c0)
    | ((with_reducible refine store_cell (o := ⟨none, _, _, _, _, _⟩) rfl _ (.tmp 128) _ rfl q 0 v8 ?_ ?_ OV.out OW.out 68 _ RQ.out size_fis ?_ ?_); (focus go_simp); (focus (first | (go_simp; done) | (go_simp; rfl))); (focus (show 0 < 2; decide)); intro w9 hr hu; have R9 := Lib.hid hr; have U9 := Lib.hid hu; clear hr hu))
  have O9 := Lib.hid (O8.out.upd RQ.out (fun e => IsTy.ne (lso_ty O8.out.own e) RQ.out.ty (by decide) rfl) (by decide) (by decide) U9.out)
  have R79 := Lib.hid (((R7.out.below D8.out R7.out.lt).upd U9.out (fun e => IsTy.ne R7.out.ty H7.out.rp.ty (by decide) e)))
  have F79 := Lib.hid ((F7.out.kept D8.out).keep fun z e => U9.out.block z (fun e2 => IsTy.ne (fr_tyb (F7.out.kept D8.out) e) RQ.out.ty (by decide) e2))
  have T79 := Lib.hid ((T7.out.kept D8.out).keep fun z e => U9.out.block z (fun e2 => IsTy.ne (lso_ty (T7.out.kept D8.out) e) RQ.out.ty (by decide) e2))
  obtain ⟨g8, c8, hv8⟩ : ∃ g8 c8, v8 = .slice (some ⟨g8, 0, none⟩) Y.length c8 := by
    rcases O9.out.own.2 with ⟨-, h1⟩ | ⟨g8, c8, cur, h1, -⟩
    · have := HL.out; omega
    · exact ⟨g8, c8, h1⟩
  rw [HL.out] at hv8
  subst hv8
  have hlk : k < Y.length := by rw [HL.out]; exact hkn
  obtain ⟨z, hzf, hzr, hzc, hzb, hzt⟩ := fy_made (s := s) (su := 0) F79.out T79.out TSI.out SSZ.out (by rw [HBL.out]; omega) (by omega) TLE.out
  obtain ⟨cur, hrow, hcf, hnew⟩ := LsO.set fiOk O9.out.own k hlk z
  replace hcf : k * 4 + (fiC s bvx 0 tvx).length ≤ cur.length := hcf
  have hnew2 : ∀ w', Row w' g8 44 (splice cur (k * 4) (fiC s bvx 0 tvx)) → LsO fiE w' w7.heap.size (.slice (some ⟨g8, 0, none⟩) n c8) (Y.set k z) := fun w' hr => hnew w' (by have e : fiE.cells z = fiC s bvx 0 tvx := hzc.symm; rw [e]; exact hr)
  have HROW := Lib.hid hrow
  have HCF := Lib.hid hcf
  have HNEW := Lib.hid hnew2
  have ZR := Lib.hid hzr
  have ZF := Lib.hid hzf
  have ZB := Lib.hid hzb
  have ZT := Lib.hid hzt
  have G8 := Lib.hid (show w7.heap.size ≤ g8 from (World.ownsRow.lt O9.out.own g8 rfl).1)
  have G8T := Lib.hid (show IsTy w9 g8 44 from lso_ty O9.out.own rfl)
  have G8N := Lib.hid (show g8 ≠ gx from fun e => absurd R7.out.lt (Nat.not_lt.2 (e ▸ G8.out)))
  clear hlk hzf hzr hzc hzb hzt hrow hcf hnew hnew2
  have D9 : Hid (Below w9.heap.size w9 w9.drew) := Lib.hid (Below.refl _ _).drew
  refine region_t (fun v => Below w9.heap.size w9 v) 7 (by kernel_rfl) (by kernel_rfl) (by kernel_rfl) D9.out ?_
  obtain ⟨we, hwe⟩ : ∃ we, w9.drew = we := ⟨_, rfl⟩
  rw [hwe] at D9 ⊢
  clear hwe
  (refine t_read 0 rfl (by kernel_rfl) (by kernel_rfl) (by kernel_rfl) (t_free rfl) ?_ ?_ ?_; rotate_left; (focus (intro v hv; go_simp; rfl)); go_simp)
  (refine t_read 1 rfl (by kernel_rfl) (by kernel_rfl) (by kernel_rfl) (t_free rfl) ?_ ?_ ?_; rotate_left; (focus (intro v hv; go_simp; rfl)); go_simp)
  (refine t_read 2 rfl (by kernel_rfl) (by kernel_rfl) (by kernel_rfl) (t_free rfl) ?_ ?_ ?_; rotate_left; (focus (intro v hv; go_simp; rfl)); go_simp)
  (refine t_read 3 rfl (by kernel_rfl) (by kernel_rfl) (by kernel_rfl) (t_free rfl) ?_ ?_ ?_; rotate_left; (focus (intro v hv; have c9 := (hv.cell (p := ⟨q, 0, none⟩) R9.out.lt).trans R9.out.k2.1; go_simp; rfl)); go_simp)
  (refine t_read 4 rfl (by kernel_rfl) (by kernel_rfl) (by kernel_rfl) (t_free rfl) ?_ ?_ ?_; rotate_left; (focus (intro v hv; go_simp; rfl)); go_simp)
  (refine t_read 5 rfl (by kernel_rfl) (by kernel_rfl) (by kernel_rfl) (t_free rfl) ?_ ?_ ?_; rotate_left; (focus (intro v hv; refine lg_all 44 (.tmp 12) ?_ gx ?_ _ _ _ (R79.out.below hv R79.out.lt) Tryz.underlying44 rfl SZ.out; (focus rfl); (focus go_simp))); go_simp)
  (refine t_read 6 rfl (by kernel_rfl) (by kernel_rfl) (by kernel_rfl) (t_free rfl) ?_ ?_ ?_; rotate_left; (focus (intro v hv; go_simp; rfl)); go_simp)
  (refine t_last 7 rfl (by kernel_rfl) rfl (by kernel_rfl) (by kernel_rfl) ?_; intro K hK)
  refine store_prt rfl _ _ _ rfl g8 (k * 4) (fiC s bvx 0 tvx) (by go_simp) (by go_simp; first | done | rfl) 44 cur (HROW.out.below D9.out HROW.out.lt) SZ.out HCF.out (fi_one _ _ _ _ OB9.out OT2.out) ?_
  intro w10 hr hu
  have N10 := Lib.hid (HNEW.out w10 hr)
  have U10 := Lib.hid hu
  clear hr hu
  refine hK _ _ ?_
  go_simp
  go_wp2_with fail
  go_ret2
  have z7 := B7.out.size
  have z8 := D8.out.size
  have z9 : w9.heap.size = w8.heap.size := U9.out.size
  have z10 := D9.out.size
  have z11 : w10.heap.size = we.heap.size := U10.out.size
  have g8g := G8.out
  have g8l := G8T.out.lt
  have fit : ∀ y ∈ Y.set k z, FYr w10 y := fun y hy => by
    have h1 : FYr w9 y := by
      rcases List.mem_or_eq_of_mem_set hy with h1 | rfl
      · exact O9.out.fit y h1
      · exact ZR.out
    exact (h1.mono D9.out).upd (HROW.out.below D9.out HROW.out.lt) (by decide) (by decide) U10.out
  have RQ10 : Row w10 q 68 [.slice (some ⟨g8, 0, none⟩) n c8, .int .i64 most] := (R9.out.below D9.out R9.out.lt).upd U10.out (fun e => IsTy.ne G8T.out R9.out.ty (by decide) e.symm)
  obtain ⟨a', c', e1, X10⟩ := XK.make RQ10 ⟨N10.out, fit⟩ (fun k => T k ∨ (w.heap.size ≤ k ∧ k < w10.heap.size)) (.inl H.out.Tq) (fun k hk => hk.elim (fun h => by have := H.out.lt k h; omega) (·.2)) (fun x hx => by have hx2 : g8 = x := Option.some.inj hx; subst hx2; exact .inr ⟨by omega, by omega⟩)
    (fun y hy b off s e => by
      have hl := ((fit y hy).kb b off s e).lt
      rcases List.mem_or_eq_of_mem_set hy with h1 | rfl
      · exact .inl (H.out.Tb y h1 b off s e)
      · exact .inr ⟨ZB.out b off s e, hl⟩)
    (fun y hy b off s e => by
      have hl := ((fit y hy).kt b off s e).lt
      rcases List.mem_or_eq_of_mem_set hy with h1 | rfl
      · exact .inl (H.out.Tt y h1 b off s e)
      · exact .inr ⟨ZT.out b off s e, hl⟩)
  rw [List.length_set, HL.out] at X10
  have F1 : Ft (fun k => k = q) w w9 := (Ft.of_below (B7.out.trans (D8.out.mono B7.out.size))).on (Ft.of_upd (F := fun k => k = q) U9.out rfl) (fun b hb => .inl hb)
  have F2 : Ft (fun k => k = q) w w10 := (F1.trans (Ft.of_below D9.out)).on (Ft.of_upd (F := fun k => k = g8) U10.out rfl) (fun b hb => .inr (by subst hb; omega))
  refine ⟨rfl, a', n, c', Y.set k z, ?_, X10, F2⟩
  rw [List.map_set, ZF.out]
  refine (putL_set (f := ⟨s, b, 0, timedL yt time⟩) HRIS.out (k := k) (g := ⟨s, yb, yu, yt⟩) ?_ rfl).symm
  rw [List.getElem?_map, HYK.out]; rfl
end Go.Proofs.YtkfhppbmnjmnoaaGreatDoor.W
