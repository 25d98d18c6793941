/- CONTRACTS of layer 9 (disk): the reference's Size, Read, Append that may not be, Loose, Cut, Clear. -/
import Derived.Test.YtlohfalpcppcjaaDkR
set_option linter.unusedSimpArgs false
set_option linter.unusedVariables false
namespace Go.Proofs.Ytlohfalpcppcjaa.W
open Go Go.ChangeShapes Go.WideShapes Go.ChangeAt Go.RowKit

theorem DX.at {w : World} {p gb gs : Nat} {vs : List Sv} {S : Nat → Prop} {Bs : List (List UInt8)} {Ss : List Int} {most : Int} (h : DX w p gb gs vs S Bs Ss most) (k : Nat) (hk : k < Bs.length) :
    ∃ va vn vc, vs.getD k default = (va, vn, vc) ∧ w.cell? ⟨gb, k, none⟩ = some (.slice va vn vc) ∧ Rd w va vn vc (Bs.getD k []) := by
  obtain ⟨va, vn, vc, hv⟩ : ∃ va vn vc, vs.getD k default = (va, vn, vc) := ⟨_, _, _, rfl⟩
  have xb := h.cb k hk
  have hr := h.rd k hk
  rw [hv] at xb hr
  exact ⟨va, vn, vc, hv, xb, hr⟩
theorem infoInt1 : (Try.prog.info? 3).map (·.size) = some 1 := by kernel_rfl
theorem Rd.take {w : World} {a : Option Addr} {len cap : Nat} {l : List UInt8} (h : Rd w a len cap l) (s : Nat) (hs : s ≤ len) : Rd w a s cap (l.take s) := by
  refine ⟨by rw [List.length_take, h.hlen]; omega, Nat.le_trans hs h.hle, h.hmax, h.hnil, ?_⟩
  rcases h.hcells with h0 | ⟨b, off, e, hlt, hc⟩
  · exact .inl (by omega)
  · refine .inr ⟨b, off, e, hlt, fun i hi => ?_⟩
    rw [hc i (by omega)]
    congr 2
    simp [List.getD_eq_getElem?_getD, List.getElem?_take, hi]
/-- which slots there are -/
def slotV (Bs : List (List UInt8)) (slot : Int) : Bool := decide (0 ≤ slot) && decide (slot < Bs.length)
theorem slot_nat {Bs : List (List UInt8)} {slot : Int} (h : slotV Bs slot = true) : ∃ k : Nat, slot = k ∧ k < Bs.length := by
  unfold slotV at h
  simp only [Bool.and_eq_true, decide_eq_true_eq] at h
  exact ⟨slot.toNat, by omega, by omega⟩

set_option maxRecDepth 100000 in
set_option maxHeartbeats 4000000 in
theorem xsize_bad (p gb gs : Nat) (vs : List Sv) (S : Nat → Prop) (Bs : List (List UInt8)) (Ss : List Int) (most : Int) (slot : Int) (w : World) (h : DX w p gb gs vs S Bs Ss most) (hb : slotV Bs slot = false) :
    Calls Try.prog 32 #[.pointer (some ⟨p, 0, none⟩), .int .i64 slot] w fun e w' => e = .returned (.int .i64 0) ∧ w = w' := by
  have hTH := Lib.hid (xthere p gb gs vs S Bs Ss most slot w h false hb)
  clear h hb
  go_enter Try.func32, Try.ntmps32
  go_wp2_with (go_at_call 40; refine hTH.out.mono ?_; rintro e w1 ⟨rfl, rfl⟩)
  go_ret
  exact ⟨rfl, rfl⟩

set_option maxRecDepth 100000 in
set_option maxHeartbeats 4000000 in
theorem xread_bad (p gb gs : Nat) (vs : List Sv) (S : Nat → Prop) (Bs : List (List UInt8)) (Ss : List Int) (most : Int) (slot : Int) (w : World) (h : DX w p gb gs vs S Bs Ss most) (hb : slotV Bs slot = false) :
    Calls Try.prog 31 #[.pointer (some ⟨p, 0, none⟩), .int .i64 slot] w fun e w' => e = .returned (.tuple #[.slice none 0 0, .int .i64 1]) ∧ w = w' := by
  have hTH := Lib.hid (xthere p gb gs vs S Bs Ss most slot w h false hb)
  clear h hb
  go_enter Try.func31, Try.ntmps31
  go_wp2_with (go_at_call 40; refine hTH.out.mono ?_; rintro e w1 ⟨rfl, rfl⟩)
  go_ret2
  exact ⟨rfl, rfl⟩

set_option maxRecDepth 100000 in
set_option maxHeartbeats 4000000 in
theorem xappend_bad (p gb gs : Nat) (vs : List Sv) (S : Nat → Prop) (Bs : List (List UInt8)) (Ss : List Int) (most : Int) (slot : Int) (a : Option Addr) (m c : Nat) (w : World) (h : DX w p gb gs vs S Bs Ss most) (hb : slotV Bs slot = false) :
    Calls Try.prog 26 #[.pointer (some ⟨p, 0, none⟩), .int .i64 slot, .slice a m c] w fun e w' => e = .returned (.int .i64 1) ∧ w = w' := by
  have hTH := Lib.hid (xthere p gb gs vs S Bs Ss most slot w h false hb)
  clear h hb
  go_enter Try.func26, Try.ntmps26
  go_wp2_with (go_at_call 40; refine hTH.out.mono ?_; rintro e w1 ⟨rfl, rfl⟩)
  go_ret
  exact ⟨rfl, rfl⟩

set_option maxRecDepth 100000 in
set_option maxHeartbeats 4000000 in
theorem xsize_ok (p gb gs : Nat) (vs : List Sv) (S : Nat → Prop) (Bs : List (List UInt8)) (Ss : List Int) (most : Int) (k : Nat) (w : World) (h : DX w p gb gs vs S Bs Ss most) (hk : k < Bs.length) :
    Calls Try.prog 32 #[.pointer (some ⟨p, 0, none⟩), .int .i64 (k : Int)] w fun e w' => e = .returned (.int .i64 ((Bs.getD k []).length : Int)) ∧ w = w' := by
  have HX := Lib.hid h
  have hlen := h.len k
  have hmost := h.most0
  have hn16 := h.n16
  have hp0 := h.p0
  have hTH := Lib.hid (xthere p gb gs vs S Bs Ss most k w h true (by simp [hk]))
  obtain ⟨n, hnn⟩ : ∃ n, Bs.length = n := ⟨_, rfl⟩
  obtain ⟨x0, x1, x2⟩ := h.rp.t3
  obtain ⟨va, vn, vc, hv, xb, hrk⟩ := h.at k hk
  have xs := h.cs k hk
  obtain ⟨L, hL⟩ : ∃ L, Bs.getD k [] = L := ⟨_, rfl⟩
  obtain ⟨su, hsu⟩ : ∃ su, Ss.getD k 0 = su := ⟨_, rfl⟩
  rw [hL] at hrk hlen ⊢
  rw [hsu] at xs
  have hvn := hrk.hlen
  rw [hnn] at x0 x1 hk hn16
  have HRK := Lib.hid hrk
  have HL := Lib.hid hL
  have HSU := Lib.hid hsu
  have HNN := Lib.hid hnn
  have HVN := Lib.hid hvn
  have hrk0 := hrk
  clear h hrk hv hnn
  clear hL hsu
  go_enter Try.func32, Try.ntmps32
  go_wp2_with (go_at_call 40; refine hTH.out.mono ?_; rintro e w1 ⟨rfl, rfl⟩)
  go_ret
  exact ⟨by rw [HVN.out]; rfl, rfl⟩

set_option maxRecDepth 100000 in
set_option maxHeartbeats 4000000 in
theorem xread_ok (p gb gs : Nat) (vs : List Sv) (S : Nat → Prop) (Bs : List (List UInt8)) (Ss : List Int) (most : Int) (k : Nat) (w : World) (h : DX w p gb gs vs S Bs Ss most) (hk : k < Bs.length) :
    Calls Try.prog 31 #[.pointer (some ⟨p, 0, none⟩), .int .i64 (k : Int)] w fun e w' => ∃ v, e = .returned (.tuple #[v, .int .i64 0]) ∧ Fr w' w.heap.size v (Bs.getD k []) ∧ Below w.heap.size w w' := by
  have HX := Lib.hid h
  have hlen := h.len k
  have hmost := h.most0
  have hn16 := h.n16
  have hp0 := h.p0
  have hTH := Lib.hid (xthere p gb gs vs S Bs Ss most k w h true (by simp [hk]))
  obtain ⟨n, hnn⟩ : ∃ n, Bs.length = n := ⟨_, rfl⟩
  obtain ⟨x0, x1, x2⟩ := h.rp.t3
  obtain ⟨va, vn, vc, hv, xb, hrk⟩ := h.at k hk
  have xs := h.cs k hk
  obtain ⟨L, hL⟩ : ∃ L, Bs.getD k [] = L := ⟨_, rfl⟩
  obtain ⟨su, hsu⟩ : ∃ su, Ss.getD k 0 = su := ⟨_, rfl⟩
  rw [hL] at hrk hlen ⊢
  rw [hsu] at xs
  have hvn := hrk.hlen
  rw [hnn] at x0 x1 hk hn16
  have HRK := Lib.hid hrk
  have HL := Lib.hid hL
  have HSU := Lib.hid hsu
  have HNN := Lib.hid hnn
  have HVN := Lib.hid hvn
  have hrk0 := hrk
  clear h hrk hv hnn
  clear hL hsu
  go_enter Try.func31, Try.ntmps31
  go_wp2_with (first
    | (go_at_call 40; refine hTH.out.mono ?_; rintro e w1 ⟨rfl, rfl⟩)
    | (at_builtin; refine append_rd rfl _ _ rfl w.heap.size _ [] rfl (Fr.nil _ _) va vn vc L rfl HRK.out (by simp; omega) (Nat.le_refl _) ?_; intro v5 w5 hf5 hb5 _; rw [List.nil_append] at hf5; have F5 := Lib.hid hf5; have B5 := Lib.hid hb5; clear hf5 hb5))
  go_ret2
  exact ⟨_, rfl, F5.out, B5.out⟩

set_option maxRecDepth 100000 in
set_option maxHeartbeats 4000000 in
theorem xappend_full (p gb gs : Nat) (vs : List Sv) (S : Nat → Prop) (Bs : List (List UInt8)) (Ss : List Int) (most : Int) (k : Nat) (a : Option Addr) (m c : Nat) (l : List UInt8) (w : World) (h : DX w p gb gs vs S Bs Ss most) (hk : k < Bs.length) (hr : Rd w a m c l) (hfit : most - ((Bs.getD k []).length : Int) < (m : Int)) :
    Calls Try.prog 26 #[.pointer (some ⟨p, 0, none⟩), .int .i64 (k : Int), .slice a m c] w fun e w' => e = .returned (.int .i64 7) ∧ Below w.heap.size w w' := by
  have HX := Lib.hid h
  have hlen := h.len k
  have hmost := h.most0
  have hn16 := h.n16
  have hp0 := h.p0
  have hTH := Lib.hid (xthere p gb gs vs S Bs Ss most k w h true (by simp [hk]))
  obtain ⟨n, hnn⟩ : ∃ n, Bs.length = n := ⟨_, rfl⟩
  obtain ⟨x0, x1, x2⟩ := h.rp.t3
  obtain ⟨va, vn, vc, hv, xb, hrk⟩ := h.at k hk
  have xs := h.cs k hk
  obtain ⟨L, hL⟩ : ∃ L, Bs.getD k [] = L := ⟨_, rfl⟩
  obtain ⟨su, hsu⟩ : ∃ su, Ss.getD k 0 = su := ⟨_, rfl⟩
  rw [hL] at hrk hlen hfit
  rw [hsu] at xs
  have hvn := hrk.hlen
  rw [hnn] at x0 x1 hk hn16
  have HRK := Lib.hid hrk
  have HL := Lib.hid hL
  have HSU := Lib.hid hsu
  have HNN := Lib.hid hnn
  have HVN := Lib.hid hvn
  have hrk0 := hrk
  clear h hrk hv hnn
  have X0 := Lib.hid x0
  have X1 := Lib.hid x1
  have X2 := Lib.hid x2
  have XB := Lib.hid xb
  have XS := Lib.hid xs
  have hml := hr.hmax
  have hmle := hr.hle
  clear hr x0 x1 x2 xb xs hL hsu
  go_enter Try.func26, Try.ntmps26
  go_wp2_with (go_at_call 40; refine hTH.out.mono ?_; rintro e w1 ⟨rfl, rfl⟩)
  have hvn' : (vn : Int) = L.length := by rw [hvn]
  have hwr : IntKind.i64.wrap (most - (vn : Int)) = most - (vn : Int) := by rw [IntKind.wrap_i64]; omega
  refine region_w (C := fun v => Below w.heap.size w v) (by kernel_rfl) (by kernel_rfl) (Below.refl _ _).drew ?_
  repeat (first
    | (refine w_read (wanted_free rfl) ?_ ?_ ?_; rotate_left; (focus (intro v hv; have x0 := (hv.cell (p := ⟨p, 0, none⟩) HX.out.rp.lt).trans X0.out; have x2 := (hv.cell (p := ⟨p, 2, none⟩) HX.out.rp.lt).trans X2.out; have xb := (hv.cell (p := ⟨gb, k, none⟩) HX.out.rb.lt).trans XB.out; go_simp; rfl)); go_simp))
  refine w_nil ?_
  intro w4 hb4
  have B4 := Lib.hid hb4
  clear hb4
  go_wp2_with fail
  · go_ret
    exact ⟨rfl, B4.out⟩
  · exfalso
    have e1 : IntKind.i64.wrap (most - (L.length : Int)) = most - (L.length : Int) := by rw [IntKind.wrap_i64]; omega
    omega

/-- a slot's number of sure bytes is written anew -/
theorem DX.puts {w w' : World} {p gb gs : Nat} {vs : List Sv} {S : Nat → Prop} {Bs : List (List UInt8)} {Ss : List Int} {most : Int} (h : DX w p gb gs vs S Bs Ss most) (k : Nat) (hk : k < Bs.length) (z : Int)
    (hu : Upd w w' gs) (hrow : Row w' gs 3 ((Ss.map (Value.int .i64)).set k (.int .i64 z))) : DX w' p gb gs vs S Bs (Ss.set k z) most := by
  refine { h with rp := h.rp.upd hu h.ps, rb := h.rb.upd hu h.bs, rs := ?_, ls := by simp [h.ls], rd := fun i hi => ?_, lt := fun b hb => by rw [hu.size]; exact h.lt b hb }
  · rw [List.map_set]; exact hrow
  · exact (h.rd i hi).upd' hu ((h.rd i hi).apart h.rs (fun x hx => ints_noB Ss x (by simpa using hx)))

set_option maxRecDepth 100000 in
set_option maxHeartbeats 4000000 in
theorem xcut_ok (p gb gs : Nat) (vs : List Sv) (S : Nat → Prop) (Bs : List (List UInt8)) (Ss : List Int) (most : Int) (k : Nat) (s : Nat) (w : World) (h : DX w p gb gs vs S Bs Ss most) (hk : k < Bs.length) (hs : s ≤ (Bs.getD k []).length) :
    Calls Try.prog 28 #[.pointer (some ⟨p, 0, none⟩), .int .i64 (k : Int), .int .i64 (s : Int)] w fun e w' => e = .returned (.int .i64 0) ∧ ∃ vs' S', DX w' p gb gs vs' S' (Bs.set k ((Bs.getD k []).take s)) (Ss.set k (min (Ss.getD k 0) s)) most ∧ Ft S w w' ∧ Grew w S S' := by
  have HX := Lib.hid h
  have hlen := h.len k
  have hmost := h.most0
  have hn16 := h.n16
  have hp0 := h.p0
  have hTH := Lib.hid (xthere p gb gs vs S Bs Ss most k w h true (by simp [hk]))
  obtain ⟨n, hnn⟩ : ∃ n, Bs.length = n := ⟨_, rfl⟩
  obtain ⟨x0, x1, x2⟩ := h.rp.t3
  obtain ⟨va, vn, vc, hv, xb, hrk⟩ := h.at k hk
  have xs := h.cs k hk
  obtain ⟨L, hL⟩ : ∃ L, Bs.getD k [] = L := ⟨_, rfl⟩
  obtain ⟨su, hsu⟩ : ∃ su, Ss.getD k 0 = su := ⟨_, rfl⟩
  rw [hL] at hrk hlen hs ⊢
  rw [hsu] at xs
  have hvn := hrk.hlen
  rw [hnn] at x0 x1 hk hn16
  have HRK := Lib.hid hrk
  have HL := Lib.hid hL
  have HSU := Lib.hid hsu
  have HNN := Lib.hid hnn
  have HVN := Lib.hid hvn
  have hrk0 := hrk
  clear h hrk hv hnn
  have X0 := Lib.hid x0
  have X1 := Lib.hid x1
  have X2 := Lib.hid x2
  have XB := Lib.hid xb
  have XS := Lib.hid xs
  rw [hsu]
  have hvc := hrk0.hle
  have hsc : s ≤ vc := by omega
  clear x1 x2 xs hL hsu hrk0
  go_enter Try.func28, Try.ntmps28
  go_wp2_with (go_at_call 40; refine hTH.out.mono ?_; rintro e w1 ⟨rfl, rfl⟩)
  clear x0 xb
  have D4 : Hid (Below w.heap.size w w.drew) := Lib.hid (Below.refl _ _).drew
  refine region_t (fun v => Below w.heap.size w v) 16 (by kernel_rfl) (by kernel_rfl) (by kernel_rfl) D4.out ?_
  obtain ⟨wd, hwd⟩ : ∃ wd, w.drew = wd := ⟨_, rfl⟩
  rw [hwd] at D4 ⊢
  clear hwd
  (refine t_read 0 rfl (by kernel_rfl) (by kernel_rfl) (by kernel_rfl) (t_free rfl) ?_ ?_ ?_; rotate_left; (focus (intro v hv; go_simp; rfl)); go_simp)
  (refine t_read 1 rfl (by kernel_rfl) (by kernel_rfl) (by kernel_rfl) (t_free rfl) ?_ ?_ ?_; rotate_left; (focus (intro v hv; go_simp; rfl)); go_simp)
  (refine t_read 2 rfl (by kernel_rfl) (by kernel_rfl) (by kernel_rfl) (t_free rfl) ?_ ?_ ?_; rotate_left; (focus (intro v hv; go_simp; rfl)); go_simp)
  (refine t_read 3 rfl (by kernel_rfl) (by kernel_rfl) (by kernel_rfl) (t_free rfl) ?_ ?_ ?_; rotate_left; (focus (intro v hv; have y0 := (hv.cell (p := ⟨p, 0, none⟩) HX.out.rp.lt).trans X0.out; have yb := (hv.cell (p := ⟨gb, k, none⟩) HX.out.rb.lt).trans XB.out; go_simp; rfl)); go_simp)
  (refine t_read 4 rfl (by kernel_rfl) (by kernel_rfl) (by kernel_rfl) (t_free rfl) ?_ ?_ ?_; rotate_left; (focus (intro v hv; go_simp; rfl)); go_simp)
  (refine t_read 5 rfl (by kernel_rfl) (by kernel_rfl) (by kernel_rfl) (t_free rfl) ?_ ?_ ?_; rotate_left; (focus (intro v hv; go_simp; rfl)); go_simp)
  (refine t_read 6 rfl (by kernel_rfl) (by kernel_rfl) (by kernel_rfl) (t_free rfl) ?_ ?_ ?_; rotate_left; (focus (intro v hv; go_simp; rfl)); go_simp)
  (refine t_read 7 rfl (by kernel_rfl) (by kernel_rfl) (by kernel_rfl) (t_free rfl) ?_ ?_ ?_; rotate_left; (focus (intro v hv; go_simp; rfl)); go_simp)
  (refine t_read 8 rfl (by kernel_rfl) (by kernel_rfl) (by kernel_rfl) (t_free rfl) ?_ ?_ ?_; rotate_left; (focus (intro v hv; have y0 := (hv.cell (p := ⟨p, 0, none⟩) HX.out.rp.lt).trans X0.out; have yb := (hv.cell (p := ⟨gb, k, none⟩) HX.out.rb.lt).trans XB.out; go_simp; rfl)); go_simp)
  (refine t_read 9 rfl (by kernel_rfl) (by kernel_rfl) (by kernel_rfl) (t_free rfl) ?_ ?_ ?_; rotate_left; (focus (intro v hv; go_simp; rfl)); go_simp)
  (refine t_read 10 rfl (by kernel_rfl) (by kernel_rfl) (by kernel_rfl) (t_free rfl) ?_ ?_ ?_; rotate_left; (focus (intro v hv; go_simp; rfl)); go_simp)
  (refine t_read 11 rfl (by kernel_rfl) (by kernel_rfl) (by kernel_rfl) (t_free rfl) ?_ ?_ ?_; rotate_left; (focus (intro v hv; have y0 := (hv.cell (p := ⟨p, 0, none⟩) HX.out.rp.lt).trans X0.out; have yb := (hv.cell (p := ⟨gb, k, none⟩) HX.out.rb.lt).trans XB.out; go_simp; rfl)); go_simp)
  (refine t_read 12 rfl (by kernel_rfl) (by kernel_rfl) (by kernel_rfl) (t_free rfl) ?_ ?_ ?_; rotate_left; (focus (intro v hv; go_simp; rfl)); go_simp)
  (refine t_read 13 rfl (by kernel_rfl) (by kernel_rfl) (by kernel_rfl) (t_free rfl) ?_ ?_ ?_; rotate_left; (focus (intro v hv; go_simp; rfl)); go_simp)
  (refine t_list 14 rfl (by kernel_rfl) rfl ?_; intro K hK)
  refine append_rd rfl _ _ rfl w.heap.size _ [] rfl (Fr.nil _ _) va s vc (L.take s) (by go_simp) ((HRK.out.mono D4.out).take s (by rw [← HVN.out]; exact hs)) (by simp; omega) D4.out.size ?_
  intro v6 w6 hf6 hb6 _
  rw [List.nil_append] at hf6
  obtain ⟨a6, c6, hv6, hr6⟩ := hf6.form' s (by rw [List.length_take]; omega)
  subst hv6
  have F6 := Lib.hid hf6
  have R6 := Lib.hid hr6
  have D6 := Lib.hid (D4.out.trans hb6)
  clear hf6 hb6 hr6
  refine hK _ _ D6.out ?_
  go_simp
  (refine t_read 15 rfl (by kernel_rfl) (by kernel_rfl) (by kernel_rfl) (t_free rfl) ?_ ?_ ?_; rotate_left; (focus (intro v hv; go_simp; rfl)); go_simp)
  (refine t_last 16 rfl (by kernel_rfl) rfl (by kernel_rfl) (by kernel_rfl) ?_; intro K hK)
  have X6 := HX.out.mono D6.out
  refine store_cell rfl _ _ _ rfl gb k (.slice a6 s c6) (by go_simp) (by go_simp) rfl rfl 30 _ X6.rb infoBytes (by rw [List.length_map, X6.lv, HNN.out]; exact hk) ?_
  intro w7 hr7 hu7
  refine hK _ _ ?_
  have hnew := F6.out.new
  have X7 := Lib.hid (X6.put k (by rw [HNN.out]; exact hk) (a6, s, c6) (L.take s) hu7 hr7 R6.out (fun b off e => (hnew b off e).2) (by rw [List.length_take]; omega))
  have F7 := Lib.hid ((Ft.of_below (F := S) D6.out).trans (Ft.of_upd hu7 X6.sb))
  have G7 : Hid (Grew w S (fun b => S b ∨ ∃ off, (a6, s, c6).1 = some ⟨b, off, none⟩)) := Lib.hid (fun b hb => hb.elim .inl fun ⟨off, e⟩ => .inr (hnew b off e).1)
  have Z1 := Lib.hid (show w7.cell? ⟨p, 1, none⟩ = some (.slice (some ⟨gs, 0, none⟩) n n) by rw [hu7.cell (p := ⟨p, 1, none⟩) HX.out.pb, D6.out.cell (p := ⟨p, 1, none⟩) HX.out.rp.lt]; exact X1.out)
  have ZS := Lib.hid (show w7.cell? ⟨gs, k, none⟩ = some (.int .i64 su) by rw [hu7.cell (p := ⟨gs, k, none⟩) (Ne.symm HX.out.bs), D6.out.cell (p := ⟨gs, k, none⟩) HX.out.rs.lt]; exact XS.out)
  clear hr7 hu7 hnew X6
  go_simp
  go_wp2_with fail
  have D9 : Hid (Below w7.heap.size w7 w7.drew) := Lib.hid (Below.refl _ _).drew
  refine region_t (fun v => Below w7.heap.size w7 v) 15 (by kernel_rfl) (by kernel_rfl) (by kernel_rfl) D9.out ?_
  obtain ⟨we, hwe⟩ : ∃ we, w7.drew = we := ⟨_, rfl⟩
  rw [hwe] at D9 ⊢
  clear hwe
  (refine t_read 0 rfl (by kernel_rfl) (by kernel_rfl) (by kernel_rfl) (t_free rfl) ?_ ?_ ?_; rotate_left; (focus (intro v hv; go_simp; rfl)); go_simp)
  (refine t_read 1 rfl (by kernel_rfl) (by kernel_rfl) (by kernel_rfl) (t_free rfl) ?_ ?_ ?_; rotate_left; (focus (intro v hv; go_simp; rfl)); go_simp)
  (refine t_read 2 rfl (by kernel_rfl) (by kernel_rfl) (by kernel_rfl) (t_free rfl) ?_ ?_ ?_; rotate_left; (focus (intro v hv; go_simp; rfl)); go_simp)
  (refine t_read 3 rfl (by kernel_rfl) (by kernel_rfl) (by kernel_rfl) (t_free rfl) ?_ ?_ ?_; rotate_left; (focus (intro v hv; have y1 := (hv.cell (p := ⟨p, 1, none⟩) X7.out.rp.lt).trans Z1.out; have ys := (hv.cell (p := ⟨gs, k, none⟩) X7.out.rs.lt).trans ZS.out; go_simp; rfl)); go_simp)
  (refine t_read 4 rfl (by kernel_rfl) (by kernel_rfl) (by kernel_rfl) (t_free rfl) ?_ ?_ ?_; rotate_left; (focus (intro v hv; go_simp; rfl)); go_simp)
  (refine t_read 5 rfl (by kernel_rfl) (by kernel_rfl) (by kernel_rfl) (t_free rfl) ?_ ?_ ?_; rotate_left; (focus (intro v hv; go_simp; rfl)); go_simp)
  (refine t_read 6 rfl (by kernel_rfl) (by kernel_rfl) (by kernel_rfl) (t_free rfl) ?_ ?_ ?_; rotate_left; (focus (intro v hv; go_simp; rfl)); go_simp)
  (refine t_read 7 rfl (by kernel_rfl) (by kernel_rfl) (by kernel_rfl) (t_free rfl) ?_ ?_ ?_; rotate_left; (focus (intro v hv; go_simp; rfl)); go_simp)
  (refine t_read 8 rfl (by kernel_rfl) (by kernel_rfl) (by kernel_rfl) (t_free rfl) ?_ ?_ ?_; rotate_left; (focus (intro v hv; have y1 := (hv.cell (p := ⟨p, 1, none⟩) X7.out.rp.lt).trans Z1.out; have ys := (hv.cell (p := ⟨gs, k, none⟩) X7.out.rs.lt).trans ZS.out; go_simp; rfl)); go_simp)
  (refine t_read 9 rfl (by kernel_rfl) (by kernel_rfl) (by kernel_rfl) (t_free rfl) ?_ ?_ ?_; rotate_left; (focus (intro v hv; go_simp; rfl)); go_simp)
  (refine t_read 10 rfl (by kernel_rfl) (by kernel_rfl) (by kernel_rfl) (t_free rfl) ?_ ?_ ?_; rotate_left; (focus (intro v hv; go_simp; rfl)); go_simp)
  (refine t_read 11 rfl (by kernel_rfl) (by kernel_rfl) (by kernel_rfl) (t_free rfl) ?_ ?_ ?_; rotate_left; (focus (intro v hv; have y1 := (hv.cell (p := ⟨p, 1, none⟩) X7.out.rp.lt).trans Z1.out; have ys := (hv.cell (p := ⟨gs, k, none⟩) X7.out.rs.lt).trans ZS.out; go_simp; rfl)); go_simp)
  (refine t_read 12 rfl (by kernel_rfl) (by kernel_rfl) (by kernel_rfl) (t_free rfl) ?_ ?_ ?_; rotate_left; (focus (intro v hv; go_simp; rfl)); go_simp)
  (refine t_read 13 rfl (by kernel_rfl) (by kernel_rfl) (by kernel_rfl) (t_free rfl) ?_ ?_ ?_; rotate_left; (focus (intro v hv; go_simp; rfl)); go_simp)
  (refine t_read 14 rfl (by kernel_rfl) (by kernel_rfl) (by kernel_rfl) (t_free rfl) ?_ ?_ ?_; rotate_left; (focus (intro v hv; go_simp; rfl)); go_simp)
  (refine t_last 15 rfl (by kernel_rfl) rfl (by kernel_rfl) (by kernel_rfl) ?_; intro K hK)
  have X9 := X7.out.mono D9.out
  refine store_cell rfl _ _ _ rfl gs k (.int .i64 (min su s)) (by go_simp) (by go_simp; first | done | (split <;> omega)) rfl rfl 3 _ X9.rs infoInt1 (by rw [List.length_map, X9.ls, List.length_set, HNN.out]; exact hk) ?_
  intro w10 hr10 hu10
  refine hK _ _ ?_
  have X10 := Lib.hid (X9.puts k (by rw [List.length_set, HNN.out]; exact hk) (min su s) hu10 hr10)
  have F10 := Lib.hid ((F7.out.trans (Ft.of_below D9.out)).trans (Ft.of_upd hu10 HX.out.ss))
  clear hr10 hu10 X9
  go_simp
  go_wp2_with fail
  all_goals
    go_ret
    exact ⟨rfl, _, _, X10.out, F10.out, G7.out⟩
end Go.Proofs.Ytlohfalpcppcjaa.W
