/- LAYER 20 (manifest): the law Tells. -/
import Derived.Test.YtpcpgodnhamdiaaMfR
import Derived.Test.YtpcpgodnhamdiaaMfK
import Derived.Test.YtpcpgodnhamdiaaMfM
import Derived.Test.YtpcpgodnhamdiaaMfP
import Derived.Test.YtpcpgodnhamdiaaMfQ
import Derived.Test.YtpcpgodnhamdiaaMfU
set_option linter.unusedSimpArgs false
set_option linter.unusedVariables false
namespace Go.Proofs.Ytpcpgodnhamdiaa.W
open Go Go.ChangeShapes Go.WideShapes Go.ChangeAt Go.RowKit
open Go.Proofs.Ytpcpgodnhamdiaa.P (enc dec)
open Go.Proofs.Ytpcpgodnhamdiaa.S

theorem gbuild_sn {w : World} {ops : Array Oper} {rest : List Oper} {o : Oper} {a : Act} {Q : Exit → Act → World → Prop} (gk : Nat) (want : Bool) (gt : Tmp) (hgd : o.guard = some (gk, want)) (x0 : Operand)
    (ho : o.op = .buildSlice 22 1 #[(0, x0)]) (y : SnX) (hdst : (ops[gk]?).bind (·.dst) = some gt) (hv : a.eval (.tmp gt) = .bool want) (h0 : a.eval x0 = .agg y.cells.toArray)
    (hk : ∀ w', Row w' w.heap.size 25 y.cells → Below w.heap.size w w' → wpList Try.prog ops Q rest (a.put o.dst (.slice (some ⟨w.heap.size, 0, none⟩) 1 1)) w') : wpList Try.prog ops Q (o :: rest) a w := by
  obtain ⟨i0, hi, hz0, hz1, hz2⟩ := info_parts snOk.info
  have hw := lg_wanted gk want gt hgd hdst hv
  refine wpList_step fun K hK => ?_
  simp only [hw, if_true]
  refine wp_buildSlice 22 25 1 _ ho y.cells.toArray i0 _ snOk.und hi hz0 (by rw [hz1]; decide) (by rw [hz1]; decide) (by rw [hz1]; simp only [List.map_toArray, List.map_cons, List.map_nil, h0]; exact sn_fill y) ?_
  exact hK _ _ (hk _ (Row.new _ _ _) ((Below.refl _ _).alloc (Nat.le_refl _) _))
theorem snl_one {w : World} {g base : Nat} {y : SnX} (hr : Row w g 25 y.cells) (ho : OwnX w base y) : SnL w (some ⟨g, 0, none⟩) 1 1 [y.s] :=
  ⟨[y], Ls.of_rowG snOk hr rfl (Nat.le_refl _) (by decide) rfl (by intro x hx; rw [List.mem_singleton.1 hx]; exact ho.fit), rfl⟩
theorem names_fit {w : World} {a : Option Addr} {n c : Nat} {X : List SnX} (h : Ls snE w a n c X) (sp : ByteArray) : ∀ s ∈ namesM (X.map (·.s)) sp, s.size ≤ maxLen := by
  intro s hs
  unfold namesM at hs
  obtain ⟨x, hx, rfl⟩ := List.mem_map.1 hs
  obtain ⟨y, hy, rfl⟩ := List.mem_map.1 (List.mem_filter.1 hx).1
  exact (h.hfit y hy).nm
set_option maxRecDepth 100000 in
set_option maxHeartbeats 32000000 in
theorem law_ManifestTells (a : Option Addr) (n c : Nat) (X : List SnX) (pa : Option Addr) (pn pc : Nat) (P : List Pc) (sp nm : ByteArray) (w : World) (h : Ls snE w a n c X) (hp : Ls pcE w pa pn pc P) (_ : sp.size ≤ maxLen) (_ : nm.size ≤ maxLen) :
    Calls Try.prog 4 #[.slice a n c, .slice pa pn pc, .string sp, .string nm] w fun x w' => x = .returned (.bool true) ∧ Below w.heap.size w w' := by
  obtain ⟨L, hL⟩ : ∃ L, X.map (·.s) = L := ⟨_, rfl⟩
  have HS0 : SnL w a n c L := ⟨X, h, hL⟩
  have HFEW := Lib.hid (fun (_ : World) => few20 a n c L w HS0)
  have hln : L.length = n := by rw [← hL, List.length_map, h.hlen]
  obtain ⟨bf, hbf⟩ : ∃ b, fewM L = b := ⟨_, rfl⟩
  have pmx := hp.hmax
  have ple := hp.hle
  rw [hbf] at HFEW
  cases bf
  case false =>
    clear h hp HS0 hL hln hbf
    go_enter Try.func4, Try.ntmps4
    go_wp2_with (first
      | (go_at_call 6; (with_reducible refine (HFEW.out w).mono ?_); rintro x w1 ⟨rfl, hb⟩; have B1 := Lib.hid hb; clear hb)
      | (go_at_call 7; (with_reducible refine (awake20 _).mono ?_); rintro x wz ⟨rfl, hb⟩; have BZ := Lib.hid (B1.out.trans (hb.mono B1.out.size)); clear hb))
    go_ret
    exact ⟨by first | rfl | exact one (vbool (by simp)), BZ.out⟩
  obtain ⟨hn30, hfp⟩ := fewM_few hbf
  by_cases hp30 : pn ≤ 30
  case neg =>
    have g30 : (30 : Int) < (pn : Int) := by omega
    clear h hp HS0 hL hln hbf hfp hn30
    go_enter Try.func4, Try.ntmps4
    go_wp2_with (first
      | (go_at_call 6; (with_reducible refine (HFEW.out w).mono ?_); rintro x w1 ⟨rfl, hb⟩; have B1 := Lib.hid hb; clear hb)
      | (go_at_call 7; (with_reducible refine (awake20 _).mono ?_); rintro x wz ⟨rfl, hb⟩; have BZ := Lib.hid (B1.out.trans (hb.mono B1.out.size)); clear hb))
    go_ret
    exact ⟨by first | rfl | exact one (vbool (by simp)), BZ.out⟩
  have g30 : ¬ (30 : Int) < (pn : Int) := by omega
  have HB1 := Lib.hid (fun w' (hb : Below w.heap.size w w') => pbytes pa pn pc P w' (hp.mono pcOk hb))
  have HB2 := Lib.hid (fun w' (hb : Below w.heap.size w w') => ubytes pa pn pc P w' (hp.mono pcOk hb))
  have HF1 := Lib.hid (fun w' (hb : Below w.heap.size w w') => pmfind sp nm a n c L w' (HS0.mono hb) hfp)
  have HF2 := Lib.hid (fun w' (hb : Below w.heap.size w w') => umfind sp nm a n c L w' (HS0.mono hb) hfp)
  have HN1 := Lib.hid (fun w' (hb : Below w.heap.size w w') => pmnames sp a n c L w' (HS0.mono hb) (by omega))
  have HN2 := Lib.hid (fun w' (hb : Below w.heap.size w w') => umnames sp a n c L w' (HS0.mono hb) (by omega))
  have HD1 := Lib.hid (fun w' (hb : Below w.heap.size w w') => pmneeds psort pcompact a n c L w' (HS0.mono hb) hfp (by omega))
  have HD2 := Lib.hid (fun w' (hb : Below w.heap.size w w') => umneeds a n c L w' (HS0.mono hb) hfp (by omega))
  rw [← needs_same L] at HD2
  have HP := Lib.hid hp
  have NF := Lib.hid (show ∀ s ∈ namesM L sp, s.size ≤ maxLen by rw [← hL]; exact names_fit h sp)
  have DF := Lib.hid (show ∀ s ∈ needsM L, s.size ≤ maxLen from fun s hs => by
    have h1 := ((needs_spec (sumsM L)).2 s).1 hs
    rw [← hL] at h1
    exact sumsM_fit h s h1)
  obtain ⟨NM, hNM⟩ : ∃ N, namesM L sp = N := ⟨_, rfl⟩
  obtain ⟨ND, hND⟩ : ∃ N, needsM L = N := ⟨_, rfl⟩
  obtain ⟨BY, hBY⟩ : ∃ N, bytesM P = N := ⟨_, rfl⟩
  obtain ⟨hs, hhs⟩ : ∃ N, hasM sp nm L = N := ⟨_, rfl⟩
  obtain ⟨FM, hFM⟩ : ∃ N, (findM L sp nm).1 = N := ⟨_, rfl⟩
  rw [hNM] at HN1 HN2 NF
  rw [hND] at HD1 HD2 DF
  rw [hBY] at HB1 HB2
  rw [hhs, hFM] at HF1 HF2
  have SZ := Lib.hid sn_size
  have MZ := Lib.hid sn_zero
  have PSZ := Lib.hid pc_size
  have PMZ := Lib.hid pc_zero
  clear h hp HS0 hL hln hbf hfp hn30 hNM hND hBY hhs hFM
  go_enter Try.func4, Try.ntmps4
  go_wp2_with (first
    | (go_at_call 6; (with_reducible refine (HFEW.out w).mono ?_); rintro x w1 ⟨rfl, hb⟩; have B1 := Lib.hid hb; clear hb)
    | (go_at_call 17; (with_reducible refine (HB1.out w1 B1.out).mono ?_); rintro x w2 ⟨rfl, hb⟩; have B2 := Lib.hid (B1.out.trans (hb.mono B1.out.size)); clear hb)
    | (go_at_call 18; (with_reducible refine (HB2.out w2 B2.out).mono ?_); rintro x w3 ⟨rfl, hb⟩; have B3 := Lib.hid (B2.out.trans (hb.mono B2.out.size)); clear hb)
    | (go_at_call 19; (with_reducible refine (HF1.out w3 B3.out).mono ?_); rintro x w4 ⟨⟨xs, xa, xm, xc⟩, rfl, hx, hox, hb⟩; dsimp only at hx; have OX4 := Lib.hid (hox.base B3.out.size); have EX := Lib.hid hx; have B4 := Lib.hid (B3.out.trans (hb.mono B3.out.size)); clear hb hox hx)
    | ((with_reducible refine alloc_row (o := ⟨some 13, _, _, _, _, _⟩) rfl _ rfl _ MZ.out ?_); intro w5 hr hb hz; have R5 := Lib.hid hr; have OX5 := Lib.hid (OX4.out.kept hb); have B5 := Lib.hid (B4.out.trans (hb.mono B4.out.size)); clear hr hb hz)
    | ((with_reducible refine store_row (o := ⟨none, _, _, _, _, _⟩) rfl _ (.tmp 13) _ rfl w4.heap.size (SnX.cells ⟨xs, xa, xm, xc⟩) ?_ ?_ 25 _ R5.out ?_ ?_ ?_ ?_); (focus go_simp); (focus (first | (go_simp; done) | (go_simp; rfl))); (focus (exact SZ.out)); (focus rfl); (focus (exact snOk.one ⟨xs, xa, xm, xc⟩)); intro w6 hr hu; have R6 := Lib.hid hr; have OX6 := Lib.hid (OX5.out.upd R5.out hu); have B6 := Lib.hid (B5.out.trans (hu.below B4.out.size)); clear hr hu)
    | (go_at_call 20; (with_reducible refine (HF2.out w6 B6.out).mono ?_); rintro x w7 ⟨⟨ys, ya, ym, yc⟩, rfl, hy, hoy, hb⟩; dsimp only at hy; have R7 := Lib.hid (R6.out.below hb R6.out.lt); have OX7 := Lib.hid (OX6.out.kept hb); have OY7 := Lib.hid (hoy.base B6.out.size); have EY := Lib.hid hy; have B7 := Lib.hid (B6.out.trans (hb.mono B6.out.size)); clear hb hoy hy)
    | ((with_reducible refine alloc_row (o := ⟨some 15, _, _, _, _, _⟩) rfl _ rfl _ MZ.out ?_); intro w8 hr hb hz; have Q8 := Lib.hid hr; have R8 := Lib.hid (R7.out.below hb R7.out.lt); have OX8 := Lib.hid (OX7.out.kept hb); have OY8 := Lib.hid (OY7.out.kept hb); have LT8 := Lib.hid R7.out.lt; have B8 := Lib.hid (B7.out.trans (hb.mono B7.out.size)); clear hr hb hz)
    | ((with_reducible refine store_row (o := ⟨none, _, _, _, _, _⟩) rfl _ (.tmp 15) _ rfl w7.heap.size (SnX.cells ⟨ys, ya, ym, yc⟩) ?_ ?_ 25 _ Q8.out ?_ ?_ ?_ ?_); (focus go_simp); (focus (first | (go_simp; done) | (go_simp; rfl))); (focus (exact SZ.out)); (focus rfl); (focus (exact snOk.one ⟨ys, ya, ym, yc⟩)); intro w9 hr hu; have Q9 := Lib.hid hr; have R9 := Lib.hid (R8.out.upd hu (Nat.ne_of_lt LT8.out)); have OX9 := Lib.hid (OX8.out.upd Q8.out hu); have OY9 := Lib.hid (OY8.out.upd Q8.out hu); have B9 := Lib.hid (B8.out.trans (hu.below B7.out.size)); clear hr hu)
    | ((with_reducible refine load_rowg (o := ⟨some 67, _, _, _, _, _⟩) 13 true 66 rfl _ _ rfl w4.heap.size _ (SnX.cells ⟨xs, xa, xm, xc⟩) _ R9.out Try.underlying25 rfl ?_ ?_ ?_ ?_ ?_); (focus rfl); (focus (first | (go_simp; done) | (go_simp; rfl))); (focus (first | (go_simp; done) | (go_simp; rfl))); (focus (exact SZ.out)))
    | ((with_reducible refine gbuild_sn (o := ⟨some 68, _, _, _, _, _⟩) 13 true 66 rfl _ rfl ⟨xs, xa, xm, xc⟩ ?_ ?_ ?_ ?_); (focus rfl); (focus (first | (go_simp; done) | (go_simp; rfl))); (focus (first | (go_simp; done) | (go_simp; rfl))); intro wA hr hb; have OXA := Lib.hid (OX9.out.kept hb); have OYA := Lib.hid (OY9.out.kept hb); have QA := Lib.hid (Q9.out.below hb Q9.out.lt); have LX := Lib.hid (snl_one hr OXA.out); have BA := Lib.hid (B9.out.trans (hb.mono B9.out.size)); clear hr hb)
    | ((with_reducible refine load_rowg (o := ⟨some 69, _, _, _, _, _⟩) 13 true 66 rfl _ _ rfl w7.heap.size _ (SnX.cells ⟨ys, ya, ym, yc⟩) _ QA.out Try.underlying25 rfl ?_ ?_ ?_ ?_ ?_); (focus rfl); (focus (first | (go_simp; done) | (go_simp; rfl))); (focus (first | (go_simp; done) | (go_simp; rfl))); (focus (exact SZ.out)))
    | ((with_reducible refine gbuild_sn (o := ⟨some 70, _, _, _, _, _⟩) 13 true 66 rfl _ rfl ⟨ys, ya, ym, yc⟩ ?_ ?_ ?_ ?_); (focus rfl); (focus (first | (go_simp; done) | (go_simp; rfl))); (focus (first | (go_simp; done) | (go_simp; rfl))); intro wB hr hb; have OYB := Lib.hid (OYA.out.kept hb); have LY := Lib.hid (snl_one hr OYB.out); have LXB := Lib.hid (LX.out.mono hb); have BB := Lib.hid (BA.out.trans (hb.mono BA.out.size)); clear hr hb)
    | (go_at_call 13; (with_reducible refine (usames _ _ 1 1 1 1 [FM] wB (by have e := EX.out; have h := LXB.out; rw [← e]; exact h) (by have e := EY.out; have h := LY.out; rw [← e]; exact h)).mono ?_); rintro x wC ⟨rfl, hb⟩; have BC := Lib.hid (BB.out.trans (hb.mono BB.out.size)); clear hb))
  clear R5 R6 R7 R8 R9 Q8 Q9 QA OX4 OX5 OX6 OX7 OX8 OX9 OXA OY7 OY8 OY9 OYA OYB LX LY LXB EX EY B1 B2 B3 B4 B5 B6 B7 B8 B9 BA BB LT8
  go_loopw [17, 75] (fun v i wr => ∃ k : Nat, i = .int .i64 (k : Int) ∧ k ≤ pn ∧ v = .bool true ∧ Hid (Below w.heap.size w wr)) (fun _ i _ => pn - (intOf i).toNat)
  case atStart => exact ⟨0, rfl, Nat.zero_le _, (by first | rfl | simp), BC⟩
  case round =>
    obtain ⟨k, rfl, hk, rfl, B⟩ := hrel
    by_cases hlt : k < pn
    · obtain ⟨b, off, p, rfl, hx, hcell, hpf⟩ := HP.out.at pcOk B.out k hlt
      have HO1 := Lib.hid (fun w' => ppiece p w' hpf)
      have HO2 := Lib.hid (fun w' => upiece p w' hpf)
      obtain ⟨ok, hok⟩ : ∃ z, pokM p = z := ⟨_, rfl⟩
      rw [hok] at HO1 HO2
      obtain ⟨ps, pz⟩ := p
      have XC := Lib.hid hcell
      have g1 : (0 : Int) ≤ (k : Int) := by omega
      have g2 : (k : Int) < (pn : Int) := by omega
      clear hx hcell hpf hok
      go_wp2_with (first
        | ((with_reducible refine load_cells (o := ⟨some 78, _, _, _, _, _⟩) rfl _ _ rfl b (off + k * 2) ?_ [.string ps, .int .i64 pz] _ XC.out Try.underlying37 rfl ?_ ?_); (focus go_simp); (focus (exact PSZ.out)))
        | ((with_reducible refine alloc_row (o := ⟨some 19, _, _, _, _, _⟩) rfl _ rfl _ PMZ.out ?_); intro w5 hr hb hz; have R5 := Lib.hid hr; have B5 := Lib.hid (B.out.trans (hb.mono B.out.size)); clear hr hb hz)
        | ((with_reducible refine store_row (o := ⟨none, _, _, _, _, _⟩) rfl _ (.tmp 19) _ rfl wr.heap.size [.string ps, .int .i64 pz] ?_ ?_ 37 _ R5.out ?_ ?_ ?_ ?_); (focus go_simp); (focus (first | (go_simp; done) | (go_simp; rfl))); (focus (exact PSZ.out)); (focus rfl); (focus (exact pc_one ⟨ps, pz⟩)); intro w6 hr hu; have R6 := Lib.hid hr; have B6 := Lib.hid (B5.out.trans (hu.below B.out.size)); clear hr hu))
      have XR := Lib.hid (show ∀ j u, ([.string ps, .int .i64 pz] : List Value)[j]? = some u → w6.cell? ⟨wr.heap.size, 0 + j, none⟩ = some u from fun j u hj => by rw [Nat.zero_add]; exact (R6.out.cellV j).trans hj)
      refine region_h (fun v => Below w6.heap.size w6 v) (by kernel_rfl) (by kernel_rfl) (Below.refl _ _).drew ?_
      obtain ⟨wd, hwd⟩ : ∃ wd, w6.drew = wd := ⟨_, rfl⟩
      have D0 : Hid (Below w6.heap.size w6 wd) := Lib.hid (by rw [← hwd]; exact (Below.refl _ _).drew)
      rw [hwd]
      clear hwd
      (refine h_read 0 rfl (by kernel_rfl) (by kernel_rfl) (h_free rfl) ?_ ?_ ?_; rotate_left; (focus (intro v hv; go_simp; rfl)); go_simp)
      (refine h_read 1 rfl (by kernel_rfl) (by kernel_rfl) (h_free rfl) ?_ ?_ ?_; rotate_left; (focus (intro v hv; go_simp; rfl)); go_simp)
      (refine h_read 2 rfl (by kernel_rfl) (by kernel_rfl) ?_ ?_ ?_ ?_; (focus (go_simp; done)); rotate_left; (focus (intro v hv; refine run_cells 37 (.tmp 19) ?_ wr.heap.size 0 ?_ [.string ps, .int .i64 pz] _ (fun j' u hj => by rw [hv.cell (p := ⟨wr.heap.size, 0 + j', none⟩) (World.block_lt_of_cell? w6 _ (XR.out j' u hj))]; exact XR.out j' u hj) Try.underlying37 rfl pc_size; (focus rfl); go_simp)); go_simp)
      (refine h_read 4 rfl (by kernel_rfl) (by kernel_rfl) ?_ ?_ ?_ ?_; (focus (go_simp; done)); rotate_left; (focus (intro v hv; refine run_cells 37 (.tmp 19) ?_ wr.heap.size 0 ?_ [.string ps, .int .i64 pz] _ (fun j' u hj => by rw [hv.cell (p := ⟨wr.heap.size, 0 + j', none⟩) (World.block_lt_of_cell? w6 _ (XR.out j' u hj))]; exact XR.out j' u hj) Try.underlying37 rfl pc_size; (focus rfl); go_simp)); go_simp)
      (refine h_call 3 rfl (by kernel_rfl) ?_ 21 ?_ ?_ ?_; (focus (go_simp; done)); rotate_left; (focus (go_simp; rfl)))
      refine (HO1.out wd).mono ?_
      rintro x w7 ⟨rfl, hb⟩
      have D7 := Lib.hid (D0.out.trans (hb.mono D0.out.size))
      clear hb
      refine ⟨_, rfl, D7.out, ?_⟩
      go_simp
      (refine h_call 5 rfl (by kernel_rfl) ?_ 22 ?_ ?_ ?_; (focus (go_simp; done)); rotate_left; (focus (go_simp; rfl)))
      refine (HO2.out w7).mono ?_
      rintro x w8 ⟨rfl, hb⟩
      have D8 := Lib.hid (D7.out.trans (hb.mono D7.out.size))
      clear hb
      refine ⟨_, rfl, D8.out, ?_⟩
      go_simp
      (refine h_read 6 rfl (by kernel_rfl) (by kernel_rfl) ?_ (.bool true) ?_ ?_; (focus (go_simp; done)); (focus (intro v hv; first | (go_simp; done) | (go_simp; simp))); go_simp)
      (refine h_read 7 rfl (by kernel_rfl) (by kernel_rfl) (h_free rfl) ?_ ?_ ?_; rotate_left; (focus (intro v hv; go_simp; rfl)); go_simp)
      (refine h_read 8 rfl (by kernel_rfl) (by kernel_rfl) (h_free rfl) ?_ ?_ ?_; rotate_left; (focus (intro v hv; go_simp; rfl)); go_simp)
      refine h_done (by kernel_rfl) ?_
      go_wp2_with fail
      go_roundw
      case rel => exact ⟨k + 1, vint (by omega), by omega, (by first | rfl | simp), Lib.hid (B6.out.trans (D8.out.mono B6.out.size))⟩
      case measure => simp [intOf]; omega
    · obtain rfl : pn = k := by omega
      have LE1 := Lib.hid (fun (v1 v2 : Option Addr) (m1 c1 m2 c2 : Nat) (w' : World) (h1 : Ls strE w' v1 m1 c1 NM) (h2 : Ls strE w' v2 m2 c2 NM) => strequal v1 v2 m1 c1 m2 c2 NM NM w' true h1 h2 (by simp))
      have LE2 := Lib.hid (fun (v1 v2 : Option Addr) (m1 c1 m2 c2 : Nat) (w' : World) (h1 : Ls strE w' v1 m1 c1 ND) (h2 : Ls strE w' v2 m2 c2 ND) => strequal v1 v2 m1 c1 m2 c2 ND ND w' true h1 h2 (by simp))
      go_wp2_with (first
        | (go_at_call 24; (with_reducible refine (HN1.out wr B.out).mono ?_); rintro x w1 ⟨v1, rfl, hl, hb⟩; obtain ⟨a1, c1, rfl, hls⟩ := hl.lsn (n := NM.length) strOk rfl NF.out; have M1 := Lib.hid hls; have B1 := Lib.hid (B.out.trans (hb.mono B.out.size)); clear hl hls hb)
        | (go_at_call 25; (with_reducible refine (HN2.out w1 B1.out).mono ?_); rintro x w2 ⟨v2, rfl, hl, hb⟩; obtain ⟨a2, c2, rfl, hls⟩ := hl.lsn (n := NM.length) strOk rfl NF.out; have M2 := Lib.hid hls; have M12 := Lib.hid (M1.out.mono strOk hb); have B2 := Lib.hid (B1.out.trans (hb.mono B1.out.size)); clear hl hls hb)
        | (go_at_call 23; (with_reducible refine (LE1.out a1 a2 _ c1 _ c2 w2 M12.out M2.out).mono ?_); rintro x w3 ⟨rfl, hb⟩; have B3 := Lib.hid (B2.out.trans (hb.mono B2.out.size)); clear hb)
        | (go_at_call 26; (with_reducible refine (HD1.out w3 B3.out).mono ?_); rintro x w4 ⟨v4, rfl, hl, hb⟩; obtain ⟨a4, c4, rfl, hls⟩ := hl.lsn (n := ND.length) strOk rfl DF.out; have M4 := Lib.hid hls; have B4 := Lib.hid (B3.out.trans (hb.mono B3.out.size)); clear hl hls hb)
        | (go_at_call 27; (with_reducible refine (HD2.out w4 B4.out).mono ?_); rintro x w5 ⟨v5, rfl, hl, hb⟩; obtain ⟨a5, c5, rfl, hls⟩ := hl.lsn (n := ND.length) strOk rfl DF.out; have M5 := Lib.hid hls; have M45 := Lib.hid (M4.out.mono strOk hb); have B5 := Lib.hid (B4.out.trans (hb.mono B4.out.size)); clear hl hls hb)
        | (go_at_call 23; (with_reducible refine (LE2.out a4 a5 _ c4 _ c5 w5 M45.out M5.out).mono ?_); rintro x w6 ⟨rfl, hb⟩; have B6 := Lib.hid (B5.out.trans (hb.mono B5.out.size)); clear hb)
        | (go_at_call 7; (with_reducible refine (awake20 _).mono ?_); rintro x w7 ⟨rfl, hb⟩; have B7 := Lib.hid (B6.out.trans (hb.mono B6.out.size)); clear hb))
      go_ret
      exact ⟨by first | rfl | exact one (vbool (by simp)), B7.out⟩
end Go.Proofs.Ytpcpgodnhamdiaa.W
