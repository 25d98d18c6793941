/- CONTRACTS of layer 9 (disk): the reference's Cut that may not be, Clear, Loose, Sync. -/
import Derived.Test.YtlohfalpcppcjaaDkS
set_option linter.unusedSimpArgs false
set_option linter.unusedVariables false
namespace Go.Proofs.Ytlohfalpcppcjaa.W
open Go Go.ChangeShapes Go.WideShapes Go.ChangeAt Go.RowKit

set_option maxRecDepth 100000 in
set_option maxHeartbeats 4000000 in
theorem xcut_slot (p gb gs : Nat) (vs : List Sv) (S : Nat → Prop) (Bs : List (List UInt8)) (Ss : List Int) (most : Int) (slot size : Int) (w : World) (h : DX w p gb gs vs S Bs Ss most) (hb : slotV Bs slot = false) :
    Calls Try.prog 28 #[.pointer (some ⟨p, 0, none⟩), .int .i64 slot, .int .i64 size] w fun e w' => e = .returned (.int .i64 1) ∧ w = w' := by
  have hTH := Lib.hid (xthere p gb gs vs S Bs Ss most slot w h false hb)
  clear h hb
  go_enter Try.func28, Try.ntmps28
  go_wp2_with (go_at_call 40; refine hTH.out.mono ?_; rintro e w1 ⟨rfl, rfl⟩)
  go_ret
  exact ⟨rfl, rfl⟩

set_option maxRecDepth 100000 in
set_option maxHeartbeats 4000000 in
theorem xcut_size (p gb gs : Nat) (vs : List Sv) (S : Nat → Prop) (Bs : List (List UInt8)) (Ss : List Int) (most : Int) (k : Nat) (size : Int) (w : World) (h : DX w p gb gs vs S Bs Ss most) (hk : k < Bs.length) (hs : size < 0 ∨ ((Bs.getD k []).length : Int) < size) :
    Calls Try.prog 28 #[.pointer (some ⟨p, 0, none⟩), .int .i64 (k : Int), .int .i64 size] w fun e w' => e = .returned (.int .i64 1) ∧ w = w' := by
  have hp0 := h.p0
  have hn16 := h.n16
  have hTH := Lib.hid (xthere p gb gs vs S Bs Ss most k w h true (by simp [hk]))
  obtain ⟨n, hnn⟩ : ∃ n, Bs.length = n := ⟨_, rfl⟩
  obtain ⟨x0, x1, x2⟩ := h.rp.t3
  obtain ⟨va, vn, vc, hv, xb, hrk⟩ := h.at k hk
  rw [← hrk.hlen] at xb
  rw [hnn] at x0 x1 hk hn16
  obtain ⟨m, hm⟩ : ∃ m, (Bs.getD k []).length = m := ⟨_, rfl⟩
  rw [hm] at xb hs
  clear h hv hrk hnn hm x1 x2
  by_cases h0 : size < 0
  · clear hs
    go_enter Try.func28, Try.ntmps28
    go_wp2_with (go_at_call 40; refine hTH.out.mono ?_; rintro e w1 ⟨rfl, rfl⟩)
    go_ret
    exact ⟨rfl, rfl⟩
  · have hs2 : (m : Int) < size := hs.resolve_left h0
    clear hs
    go_enter Try.func28, Try.ntmps28
    go_wp2_with (go_at_call 40; refine hTH.out.mono ?_; rintro e w1 ⟨rfl, rfl⟩)
    go_ret
    exact ⟨rfl, rfl⟩

set_option maxRecDepth 100000 in
set_option maxHeartbeats 4000000 in
theorem xclear_slot (p gb gs : Nat) (vs : List Sv) (S : Nat → Prop) (Bs : List (List UInt8)) (Ss : List Int) (most : Int) (slot : Int) (w : World) (h : DX w p gb gs vs S Bs Ss most) (hb : slotV Bs slot = false) :
    Calls Try.prog 27 #[.pointer (some ⟨p, 0, none⟩), .int .i64 slot] w fun e w' => e = .returned (.int .i64 1) ∧ w = w' := by
  have hC := Lib.hid (xcut_slot p gb gs vs S Bs Ss most slot 0 w h hb)
  clear h hb
  go_enter Try.func27, Try.ntmps27
  go_wp2_with (go_at_call 28; refine hC.out.mono ?_; rintro e w1 ⟨rfl, rfl⟩)
  go_ret
  exact ⟨rfl, rfl⟩
set_option maxRecDepth 100000 in
set_option maxHeartbeats 4000000 in
theorem xclear_ok (p gb gs : Nat) (vs : List Sv) (S : Nat → Prop) (Bs : List (List UInt8)) (Ss : List Int) (most : Int) (k : Nat) (w : World) (h : DX w p gb gs vs S Bs Ss most) (hk : k < Bs.length) :
    Calls Try.prog 27 #[.pointer (some ⟨p, 0, none⟩), .int .i64 (k : Int)] w fun e w' => e = .returned (.int .i64 0) ∧ ∃ vs' S', DX w' p gb gs vs' S' (Bs.set k []) (Ss.set k (min (Ss.getD k 0) 0)) most ∧ Ft S w w' ∧ Grew w S S' := by
  have hC := Lib.hid (xcut_ok p gb gs vs S Bs Ss most k 0 w h hk (Nat.zero_le _))
  rw [List.take_zero] at hC
  clear h hk
  go_enter Try.func27, Try.ntmps27
  go_wp2_with (go_at_call 28; refine hC.out.mono ?_; rintro e w1 ⟨rfl, vs', S', h1, h2, h3⟩; have H1 := Lib.hid h1; have H2 := Lib.hid h2; have H3 := Lib.hid h3; clear h1 h2 h3)
  go_ret
  exact ⟨rfl, _, _, H1.out, H2.out, H3.out⟩

/-- how many bytes of the first slots are not sure -/
def looseN (Bs : List (List UInt8)) (Ss : List Int) : Nat → Int
  | 0 => 0
  | k + 1 => looseN Bs Ss k + ((Bs.getD k []).length : Int) - Ss.getD k 0
theorem looseN_le (Bs : List (List UInt8)) (Ss : List Int) (h : DSure Bs Ss) (hl : ∀ i, (Bs.getD i []).length ≤ 524288) : ∀ k, k ≤ Bs.length → 0 ≤ looseN Bs Ss k ∧ looseN Bs Ss k ≤ 524288 * k
  | 0, _ => by simp [looseN]
  | k + 1, hk => by
    have ih := looseN_le Bs Ss h hl k (by omega)
    have h1 := h k (by omega)
    have h2 := hl k
    unfold looseN
    omega

set_option maxRecDepth 100000 in
set_option maxHeartbeats 4000000 in
theorem xloose (p gb gs : Nat) (vs : List Sv) (S : Nat → Prop) (Bs : List (List UInt8)) (Ss : List Int) (most : Int) (w : World) (h : DX w p gb gs vs S Bs Ss most) (hS : DSure Bs Ss) :
    Calls Try.prog 33 #[.pointer (some ⟨p, 0, none⟩)] w fun e w' => e = .returned (.int .i64 (looseN Bs Ss Bs.length)) ∧ Below w.heap.size w w' := by
  have HX := Lib.hid h
  have HS := Lib.hid hS
  have hp0 := h.p0
  have hn16 := h.n16
  obtain ⟨n, hnn⟩ : ∃ n, Bs.length = n := ⟨_, rfl⟩
  obtain ⟨x0, x1, x2⟩ := h.rp.t3
  rw [hnn] at x0 x1 hn16 ⊢
  have HNN := Lib.hid hnn
  have X0 := Lib.hid x0
  have X1 := Lib.hid x1
  clear h hS hnn x0 x1 x2
  go_enter Try.func33, Try.ntmps33
  go_wp2_with fail
  go_loopw [3, 4] (fun v i wr => ∃ k : Nat, v = .int .i64 (looseN Bs Ss k) ∧ i = .int .i64 (k : Int) ∧ k ≤ n ∧ Hid (Below w.heap.size w wr)) (fun _ i _ => n - (intOf i).toNat)
  case atStart => exact ⟨0, rfl, rfl, Nat.zero_le _, Lib.hid (Below.refl _ _)⟩
  case round =>
    obtain ⟨k, rfl, rfl, hk, HB⟩ := hrel
    have x0 := (HB.out.cell (p := ⟨p, 0, none⟩) HX.out.rp.lt).trans X0.out
    by_cases hlt : k < n
    · have hk' : k < Bs.length := by rw [HNN.out]; exact hlt
      obtain ⟨va, vn, vc, hv, xb, hrk⟩ := HX.out.at k hk'
      have hlen := HX.out.len k
      have hvn := hrk.hlen
      have xs := HX.out.cs k hk'
      have hb1 := looseN_le Bs Ss HS.out HX.out.len k (by omega)
      have hs1 := HS.out k hk'
      have hst : looseN Bs Ss (k + 1) = looseN Bs Ss k + ((Bs.getD k []).length : Int) - Ss.getD k 0 := rfl
      obtain ⟨A, hA⟩ : ∃ A, looseN Bs Ss k = A := ⟨_, rfl⟩
      obtain ⟨su, hsu⟩ : ∃ su, Ss.getD k 0 = su := ⟨_, rfl⟩
      rw [hA, hsu, hvn] at hst
      rw [hA] at hb1
      rw [hsu] at xs hs1
      rw [hvn] at hlen hs1
      rw [hA]
      have hw1 : IntKind.i64.wrap (A + (vn : Int)) = A + (vn : Int) := by rw [IntKind.wrap_i64]; omega
      have hw2 : IntKind.i64.wrap (A + (vn : Int) - su) = A + (vn : Int) - su := by rw [IntKind.wrap_i64]; omega
      have HST := Lib.hid hst
      have XB := Lib.hid xb
      have XS := Lib.hid xs
      clear hv xb hrk xs hst hA hsu hvn hk'
      go_wp2_with fail
      refine region_w (C := fun v => Below wr.heap.size wr v) (by kernel_rfl) (by kernel_rfl) (Below.refl _ _).drew ?_
      clear x0
      repeat (first
        | (refine w_read (wanted_free rfl) ?_ ?_ ?_; rotate_left; (focus (intro v hv; have hv2 := HB.out.trans (hv.mono HB.out.size); have x0 := (hv2.cell (p := ⟨p, 0, none⟩) HX.out.rp.lt).trans X0.out; have x1 := (hv2.cell (p := ⟨p, 1, none⟩) HX.out.rp.lt).trans X1.out; have xb := (hv2.cell (p := ⟨gb, k, none⟩) HX.out.rb.lt).trans XB.out; have xs := (hv2.cell (p := ⟨gs, k, none⟩) HX.out.rs.lt).trans XS.out; clear hv2; go_simp; rfl)); go_simp))
      refine w_nil ?_
      intro w4 hb4
      have HB4 := Lib.hid (HB.out.trans (hb4.mono HB.out.size))
      clear hb4
      go_wp2_with fail
      go_roundw
      case rel => exact ⟨k + 1, by rw [HST.out], vint (by omega), by omega, HB4⟩
      case measure => simp [intOf]; omega
    · obtain rfl : n = k := by omega
      go_wp2_with fail
      go_ret
      exact ⟨rfl, HB.out⟩

/-- the first slots' bytes are all sure -/
def syncN (Bs : List (List UInt8)) (Ss : List Int) : Nat → List Int
  | 0 => Ss
  | k + 1 => (syncN Bs Ss k).set k ((Bs.getD k []).length : Int)

set_option maxRecDepth 100000 in
set_option maxHeartbeats 4000000 in
theorem xsync (p gb gs : Nat) (vs : List Sv) (S : Nat → Prop) (Bs : List (List UInt8)) (Ss : List Int) (most : Int) (w : World) (h : DX w p gb gs vs S Bs Ss most) (hS : DSure Bs Ss) :
    Calls Try.prog 29 #[.pointer (some ⟨p, 0, none⟩)] w fun e w' => e = .returned (.int .i64 (looseN Bs Ss Bs.length)) ∧ DX w' p gb gs vs S Bs (syncN Bs Ss Bs.length) most ∧ Ft S w w' := by
  have HX := Lib.hid h
  have hp0 := h.p0
  have hn16 := h.n16
  have hLO := Lib.hid (xloose p gb gs vs S Bs Ss most w h hS)
  obtain ⟨n, hnn⟩ : ∃ n, Bs.length = n := ⟨_, rfl⟩
  rw [hnn] at hn16 hLO ⊢
  have HNN := Lib.hid hnn
  clear h hS hnn
  go_enter Try.func29, Try.ntmps29
  go_wp2_with (go_at_call 33; refine hLO.out.mono ?_; rintro e w1 ⟨rfl, hb1⟩; have B1 := Lib.hid hb1; clear hb1)
  go_loopw [4] (fun i wr => ∃ k : Nat, i = .int .i64 (k : Int) ∧ k ≤ n ∧ Hid (DX wr p gb gs vs S Bs (syncN Bs Ss k) most) ∧ Hid (Ft S w wr)) (fun i _ => n - (intOf i).toNat)
  case atStart => exact ⟨0, rfl, Nat.zero_le _, Lib.hid (HX.out.mono B1.out), Lib.hid (Ft.of_below B1.out)⟩
  case round =>
    obtain ⟨k, rfl, hk, X, F⟩ := hrel
    obtain ⟨x0, x1, x2⟩ := X.out.rp.t3
    rw [HNN.out] at x0 x1
    have X0 := Lib.hid x0
    have X1 := Lib.hid x1
    clear x1 x2
    by_cases hlt : k < n
    · have hk' : k < Bs.length := by rw [HNN.out]; exact hlt
      obtain ⟨va, vn, vc, hv, xb, hrk⟩ := X.out.at k hk'
      have hlen := X.out.len k
      have hvn := hrk.hlen
      have XB := Lib.hid xb
      have HVN := Lib.hid hvn
      clear hv xb hrk
      go_wp2_with fail
      clear x0
      have D4 : Hid (Below wr.heap.size wr wr.drew) := Lib.hid (Below.refl _ _).drew
      refine region_t (fun v => Below wr.heap.size wr v) 14 (by kernel_rfl) (by kernel_rfl) (by kernel_rfl) D4.out ?_
      obtain ⟨wd, hwd⟩ : ∃ wd, wr.drew = wd := ⟨_, rfl⟩
      rw [hwd] at D4 ⊢
      clear hwd
      (refine t_read 0 rfl (by kernel_rfl) (by kernel_rfl) (by kernel_rfl) (t_free rfl) ?_ ?_ ?_; rotate_left; (focus (intro v hv; go_simp; rfl)); go_simp)
      (refine t_read 1 rfl (by kernel_rfl) (by kernel_rfl) (by kernel_rfl) (t_free rfl) ?_ ?_ ?_; rotate_left; (focus (intro v hv; go_simp; rfl)); go_simp)
      (refine t_read 2 rfl (by kernel_rfl) (by kernel_rfl) (by kernel_rfl) (t_free rfl) ?_ ?_ ?_; rotate_left; (focus (intro v hv; go_simp; rfl)); go_simp)
      (refine t_read 3 rfl (by kernel_rfl) (by kernel_rfl) (by kernel_rfl) (t_free rfl) ?_ ?_ ?_; rotate_left; (focus (intro v hv; have x0 := (hv.cell (p := ⟨p, 0, none⟩) X.out.rp.lt).trans X0.out; have x1 := (hv.cell (p := ⟨p, 1, none⟩) X.out.rp.lt).trans X1.out; have xb := (hv.cell (p := ⟨gb, k, none⟩) X.out.rb.lt).trans XB.out; go_simp; rfl)); go_simp)
      (refine t_read 4 rfl (by kernel_rfl) (by kernel_rfl) (by kernel_rfl) (t_free rfl) ?_ ?_ ?_; rotate_left; (focus (intro v hv; go_simp; rfl)); go_simp)
      (refine t_read 5 rfl (by kernel_rfl) (by kernel_rfl) (by kernel_rfl) (t_free rfl) ?_ ?_ ?_; rotate_left; (focus (intro v hv; go_simp; rfl)); go_simp)
      (refine t_read 6 rfl (by kernel_rfl) (by kernel_rfl) (by kernel_rfl) (t_free rfl) ?_ ?_ ?_; rotate_left; (focus (intro v hv; go_simp; rfl)); go_simp)
      (refine t_read 7 rfl (by kernel_rfl) (by kernel_rfl) (by kernel_rfl) (t_free rfl) ?_ ?_ ?_; rotate_left; (focus (intro v hv; go_simp; rfl)); go_simp)
      (refine t_read 8 rfl (by kernel_rfl) (by kernel_rfl) (by kernel_rfl) (t_free rfl) ?_ ?_ ?_; rotate_left; (focus (intro v hv; have x0 := (hv.cell (p := ⟨p, 0, none⟩) X.out.rp.lt).trans X0.out; have x1 := (hv.cell (p := ⟨p, 1, none⟩) X.out.rp.lt).trans X1.out; have xb := (hv.cell (p := ⟨gb, k, none⟩) X.out.rb.lt).trans XB.out; go_simp; rfl)); go_simp)
      (refine t_read 9 rfl (by kernel_rfl) (by kernel_rfl) (by kernel_rfl) (t_free rfl) ?_ ?_ ?_; rotate_left; (focus (intro v hv; go_simp; rfl)); go_simp)
      (refine t_read 10 rfl (by kernel_rfl) (by kernel_rfl) (by kernel_rfl) (t_free rfl) ?_ ?_ ?_; rotate_left; (focus (intro v hv; go_simp; rfl)); go_simp)
      (refine t_read 11 rfl (by kernel_rfl) (by kernel_rfl) (by kernel_rfl) (t_free rfl) ?_ ?_ ?_; rotate_left; (focus (intro v hv; have x0 := (hv.cell (p := ⟨p, 0, none⟩) X.out.rp.lt).trans X0.out; have x1 := (hv.cell (p := ⟨p, 1, none⟩) X.out.rp.lt).trans X1.out; have xb := (hv.cell (p := ⟨gb, k, none⟩) X.out.rb.lt).trans XB.out; go_simp; rfl)); go_simp)
      (refine t_read 12 rfl (by kernel_rfl) (by kernel_rfl) (by kernel_rfl) (t_free rfl) ?_ ?_ ?_; rotate_left; (focus (intro v hv; go_simp; rfl)); go_simp)
      (refine t_read 13 rfl (by kernel_rfl) (by kernel_rfl) (by kernel_rfl) (t_free rfl) ?_ ?_ ?_; rotate_left; (focus (intro v hv; go_simp; rfl)); go_simp)
      (refine t_last 14 rfl (by kernel_rfl) rfl (by kernel_rfl) (by kernel_rfl) ?_; intro K hK)
      have X6 := X.out.mono D4.out
      refine store_cell rfl _ _ _ rfl gs k (.int .i64 (vn : Int)) (by go_simp) (by go_simp) rfl rfl 3 _ X6.rs infoInt1 (by rw [List.length_map, X6.ls]; exact hk') ?_
      intro w7 hr7 hu7
      refine hK _ _ ?_
      have X7 : Hid (DX w7 p gb gs vs S Bs (syncN Bs Ss (k + 1)) most) := Lib.hid (by unfold syncN; rw [HVN.out]; exact X6.puts k hk' (vn : Int) hu7 hr7)
      have F7 := Lib.hid ((F.out.trans (Ft.of_below D4.out)).trans (Ft.of_upd hu7 X6.ss))
      clear hr7 hu7 X6
      go_simp
      go_wp2_with fail
      go_roundw
      case rel => exact ⟨k + 1, vint (by omega), by omega, X7, F7⟩
      case measure => simp [intOf]; omega
    · obtain rfl : n = k := by omega
      go_wp2_with fail
      go_ret
      exact ⟨rfl, X.out, F.out⟩

end Go.Proofs.Ytlohfalpcppcjaa.W
