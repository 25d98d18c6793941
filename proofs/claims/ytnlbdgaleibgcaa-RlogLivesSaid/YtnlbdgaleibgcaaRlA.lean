/- LAYER 13 (rlog): ready, Base, Last, has, place, Term, LastTerm of the program. -/
import Derived.Test.YtnlbdgaleibgcaaRlO
set_option linter.unusedSimpArgs false
set_option linter.unusedVariables false
namespace Go.Proofs.Ytnlbdgaleibgcaa.W
open Go Go.ChangeShapes Go.WideShapes Go.ChangeAt Go.RowKit

set_option maxRecDepth 100000 in
set_option maxHeartbeats 4000000 in
theorem gready (p : Nat) (F : Nat → Prop) (b t c : Int) (ea : Option Addr) (en ec : Nat) (L : List (En × List UInt8)) (w : World) (h : LG w p F b t c ea en ec L) (ho : LOK (lsOf b t c L)) : Calls Try.prog 41 #[.pointer (some ⟨p, 0, none⟩)] w fun x w' => x = .returned (.bool true) ∧ w = w' := by
  have hl := h.len
  have hb := ho.b
  have hn := ho.n
  obtain ⟨c0, c1, c2, c3, c4⟩ := h.row.c5
  rw [show (lsOf b t c L).l.length = en by rw [← hl]; simp [lsOf]] at hn
  dsimp only [lsOf] at hb
  clear h ho
  go_enter Try.func41, Try.ntmps41
  go_wp2_with fail
  go_ret
  exact ⟨rfl, rfl⟩
set_option maxRecDepth 100000 in
set_option maxHeartbeats 4000000 in
theorem gbase (p : Nat) (F : Nat → Prop) (b t c : Int) (ea : Option Addr) (en ec : Nat) (L : List (En × List UInt8)) (w : World) (h : LG w p F b t c ea en ec L) (ho : LOK (lsOf b t c L)) : Calls Try.prog 33 #[.pointer (some ⟨p, 0, none⟩)] w fun x w' => x = .returned (.int .i64 b) ∧ w = w' := by
  have hl := h.len
  have hb := ho.b
  have hn := ho.n
  obtain ⟨c0, c1, c2, c3, c4⟩ := h.row.c5
  rw [show (lsOf b t c L).l.length = en by rw [← hl]; simp [lsOf]] at hn
  dsimp only [lsOf] at hb
  have RD := Lib.hid (gready p F b t c ea en ec L w h ho)
  clear h ho
  go_enter Try.func33, Try.ntmps33
  go_wp2_with (first | (go_at_call 41; refine RD.out.mono ?_; rintro x w1 ⟨rfl, rfl⟩))
  go_ret
  exact ⟨rfl, rfl⟩
set_option maxRecDepth 100000 in
set_option maxHeartbeats 4000000 in
theorem glast (p : Nat) (F : Nat → Prop) (b t c : Int) (ea : Option Addr) (en ec : Nat) (L : List (En × List UInt8)) (w : World) (h : LG w p F b t c ea en ec L) (ho : LOK (lsOf b t c L)) : Calls Try.prog 30 #[.pointer (some ⟨p, 0, none⟩)] w fun x w' => x = .returned (.int .i64 (lsOf b t c L).last) ∧ Below w.heap.size w w' := by
  have hl := h.len
  have hb := ho.b
  have hn := ho.n
  obtain ⟨c0, c1, c2, c3, c4⟩ := h.row.c5
  rw [show (lsOf b t c L).l.length = en by rw [← hl]; simp [lsOf]] at hn
  dsimp only [lsOf] at hb
  have RD := Lib.hid (gready p F b t c ea en ec L w h ho)
  have hv : (lsOf b t c L).last = b + (en : Int) := by unfold LS.last lsOf; dsimp only; rw [List.length_map, hl]
  rw [hv]
  have gw : IntKind.i64.wrap (b + (en : Int)) = b + (en : Int) := by rw [IntKind.wrap_i64]; omega
  clear h ho hv
  go_enter Try.func30, Try.ntmps30
  go_wp2_with (first | (go_at_call 41; refine RD.out.mono ?_; rintro x w1 ⟨rfl, rfl⟩))
  go_region
  go_wp2_with fail
  go_ret
  exact ⟨rfl, (Below.refl _ _).drew⟩
set_option maxRecDepth 100000 in
set_option maxHeartbeats 4000000 in
theorem ghas (p : Nat) (F : Nat → Prop) (b t c : Int) (ea : Option Addr) (en ec : Nat) (L : List (En × List UInt8)) (i : Int) (w : World) (h : LG w p F b t c ea en ec L) (ho : LOK (lsOf b t c L)) : Calls Try.prog 49 #[.pointer (some ⟨p, 0, none⟩), .int .i64 i] w fun x w' => x = .returned (.bool ((lsOf b t c L).has i)) ∧ Below w.heap.size w w' := by
  have hl := h.len
  have hb := ho.b
  have hn := ho.n
  obtain ⟨c0, c1, c2, c3, c4⟩ := h.row.c5
  rw [show (lsOf b t c L).l.length = en by rw [← hl]; simp [lsOf]] at hn
  dsimp only [lsOf] at hb
  have GL := Lib.hid (fun (W : World) (hb : Below w.heap.size w W) => glast p F b t c ea en ec L W (h.mono hb) ho)
  obtain ⟨z, hz⟩ : ∃ z, (lsOf b t c L).last = z := ⟨_, rfl⟩
  have hv : (lsOf b t c L).has i = (decide (b < i) && decide (i ≤ z)) := by unfold LS.has; rw [hz]; rfl
  rw [hv]
  rw [hz] at GL
  clear h ho hv hz hl hb hn
  by_cases hbi : b < i
  · rw [decide_eq_true hbi]
    go_enter Try.func49, Try.ntmps49
    go_wp2_with (first | (go_at_call 30; refine (GL.out w (Below.refl _ _)).mono ?_; rintro x w1 ⟨rfl, hb1⟩; have B1 := Lib.hid hb1; clear hb1))
    go_ret
    exact ⟨one (vbool (by simp)), B1.out⟩
  · rw [decide_eq_false hbi]
    go_enter Try.func49, Try.ntmps49
    go_wp2_with fail
    go_ret
    exact ⟨one (vbool (by simp)), Below.refl _ _⟩
set_option maxRecDepth 100000 in
set_option maxHeartbeats 4000000 in
theorem gplace (p : Nat) (F : Nat → Prop) (b t c : Int) (ea : Option Addr) (en ec : Nat) (L : List (En × List UInt8)) (i : Int) (w : World) (h : LG w p F b t c ea en ec L) (ho : LOK (lsOf b t c L)) (hi : b < i ∧ i ≤ b + 1000) : Calls Try.prog 50 #[.pointer (some ⟨p, 0, none⟩), .int .i64 i] w fun x w' => x = .returned (.int .i64 (i - b - 1)) ∧ w = w' := by
  have hl := h.len
  have hb := ho.b
  have hn := ho.n
  obtain ⟨c0, c1, c2, c3, c4⟩ := h.row.c5
  rw [show (lsOf b t c L).l.length = en by rw [← hl]; simp [lsOf]] at hn
  dsimp only [lsOf] at hb
  clear h ho
  have gw1 : IntKind.i64.wrap (i - b) = i - b := by rw [IntKind.wrap_i64]; omega
  have gw2 : IntKind.i64.wrap (i - b - 1) = i - b - 1 := by rw [IntKind.wrap_i64]; omega
  go_enter Try.func50, Try.ntmps50
  go_wp2_with fail
  go_ret
  exact ⟨rfl, rfl⟩
set_option maxRecDepth 100000 in
set_option maxHeartbeats 4000000 in
theorem gterm (p : Nat) (F : Nat → Prop) (b t c : Int) (ea : Option Addr) (en ec : Nat) (L : List (En × List UInt8)) (i : Int) (w : World) (h : LG w p F b t c ea en ec L) (ho : LOK (lsOf b t c L)) : Calls Try.prog 34 #[.pointer (some ⟨p, 0, none⟩), .int .i64 i] w fun x w' => x = .returned (.tuple #[.int .i64 ((lsOf b t c L).term i), .int .i64 ((lsOf b t c L).termE i)]) ∧ Below w.heap.size w w' := by
  have hl := h.len
  have hb := ho.b
  have hn := ho.n
  obtain ⟨c0, c1, c2, c3, c4⟩ := h.row.c5
  rw [show (lsOf b t c L).l.length = en by rw [← hl]; simp [lsOf]] at hn
  dsimp only [lsOf] at hb
  have RD := Lib.hid (gready p F b t c ea en ec L w h ho)
  have GH := Lib.hid (fun (W : World) (hb : Below w.heap.size w W) => ghas p F b t c ea en ec L i W (h.mono hb) ho)
  have GP := Lib.hid (fun (W : World) (hb : Below w.heap.size w W) => gplace p F b t c ea en ec L i W (h.mono hb) ho)
  have HG := Lib.hid h
  unfold LS.term LS.termE
  rw [show (lsOf b t c L).b = b from rfl, show (lsOf b t c L).t = t from rfl]
  by_cases hib : i = b
  · subst hib
    rw [if_pos rfl, if_pos rfl]
    clear h ho GH GP
    go_enter Try.func34, Try.ntmps34
    go_wp2_with (first | (go_at_call 41; refine RD.out.mono ?_; rintro x w1 ⟨rfl, rfl⟩))
    go_ret2
    exact ⟨rfl, Below.refl _ _⟩
  · rw [if_neg hib, if_neg hib]
    have hib1 : (i == b) = false := by simpa using hib
    rcases hhas : (lsOf b t c L).has i with _ | _
    · rw [hhas] at GH
      rw [if_neg (by decide), if_neg (by decide)]
      clear h ho hhas GP
      go_enter Try.func34, Try.ntmps34
      go_wp2_with (first | (go_at_call 41; refine RD.out.mono ?_; rintro x w1 ⟨rfl, rfl⟩) | (go_at_call 49; refine (GH.out w (Below.refl _ _)).mono ?_; rintro x w1 ⟨rfl, hb1⟩; have B1 := Lib.hid hb1; clear hb1))
      go_ret2
      exact ⟨rfl, B1.out⟩
    · rw [hhas] at GH
      rw [if_pos rfl, if_pos rfl]
      have hh : b < i ∧ i ≤ b + (en : Int) := by
        unfold LS.has LS.last lsOf at hhas
        simp at hhas
        rw [hl] at hhas
        exact hhas
      obtain ⟨k, hk⟩ : ∃ k : Nat, i = b + 1 + (k : Int) := ⟨(i - b - 1).toNat, by omega⟩
      have hkn : k < en := by omega
      have hat : (lsOf b t c L).at i = pe (L.getD k Ez) := by rw [hk]; exact at_of (by rw [hl]; exact hkn)
      rw [hat]
      obtain ⟨x1, o1, he1, hx1, -, -⟩ := h.ents.at (Below.refl _ _) k hkn
      obtain ⟨⟨⟨jx, jt, jk, qa, qn, qc⟩, ql⟩, hq⟩ : ∃ y, L.getD k Ez = y := ⟨_, rfl⟩
      rw [hq] at hx1 ⊢
      dsimp only at hx1
      have X1 := Lib.hid (show w.cell? ⟨x1, o1 + k * 4 + 1, none⟩ = some (.int .i64 jt) from hx1 1 _ rfl)
      have hpv : i - b - 1 = (k : Int) := by omega
      have GPx := Lib.hid (fun (W : World) (hb : Below w.heap.size w W) => GP.out W hb (by omega))
      have g1 : (0 : Int) ≤ (k : Int) := by omega
      have g2 : (k : Int) < (en : Int) := by omega
      have HE1 := Lib.hid he1
      rw [hpv] at GPx
      show Calls _ _ _ _ fun x w' => x = .returned (.tuple #[.int .i64 jt, .int .i64 0]) ∧ Below w.heap.size w w'
      clear h ho hhas GP hx1 hq hat hh hk he1 hpv
      go_enter Try.func34, Try.ntmps34
      go_wp2_with (first | (go_at_call 41; refine RD.out.mono ?_; rintro x w1 ⟨rfl, rfl⟩) | (go_at_call 49; refine (GH.out w (Below.refl _ _)).mono ?_; rintro x w1 ⟨rfl, hb1⟩; have B1 := Lib.hid hb1; clear hb1))
      clear c0 c1 c2 c3 c4
      refine region_h (fun v => Below w1.heap.size w1 v) (by kernel_rfl) (by kernel_rfl) (Below.refl _ _).drew ?_
      obtain ⟨wd, hwd⟩ : ∃ wd, w1.drew = wd := ⟨_, rfl⟩
      have D0 : Hid (Below w1.heap.size w1 wd) := Lib.hid (by rw [← hwd]; exact (Below.refl _ _).drew)
      rw [hwd]
      clear hwd
      (refine h_read 0 rfl (by kernel_rfl) (by kernel_rfl) (h_free rfl) ?_ ?_ ?_; rotate_left; (focus (intro v hv; go_simp; rfl)); go_simp)
      (refine h_read 1 rfl (by kernel_rfl) (by kernel_rfl) (h_free rfl) ?_ ?_ ?_; rotate_left; (focus (intro v hv; go_simp; rfl)); go_simp)
      (refine h_read 2 rfl (by kernel_rfl) (by kernel_rfl) (h_free rfl) ?_ ?_ ?_; rotate_left; (focus (intro v hv; go_simp; rfl)); go_simp)
      (refine h_read 3 rfl (by kernel_rfl) (by kernel_rfl) (h_free rfl) ?_ ?_ ?_; rotate_left; (focus (intro v hv; have hbv := B1.out.trans (hv.mono B1.out.size); have H9 := HG.out.mono hbv; obtain ⟨c0, c1, c2, c3, c4⟩ := H9.row.c5; rw [HE1.out] at c4; have x9 := (hbv.cell (p := ⟨x1, o1 + k * 4 + 1, none⟩) (World.block_lt_of_cell? w _ X1.out)).trans X1.out; go_simp; rfl)); go_simp)
      (refine h_read 4 rfl (by kernel_rfl) (by kernel_rfl) (h_free rfl) ?_ ?_ ?_; rotate_left; (focus (intro v hv; go_simp; rfl)); go_simp)
      (refine h_read 5 rfl (by kernel_rfl) (by kernel_rfl) (h_free rfl) ?_ ?_ ?_; rotate_left; (focus (intro v hv; go_simp; rfl)); go_simp)
      (refine h_call 6 rfl (by kernel_rfl) (h_free rfl) 50 ?_ ?_ ?_; rotate_left; (focus (go_simp; rfl)))
      refine (GPx.out wd (B1.out.trans (D0.out.mono B1.out.size))).mono ?_
      rintro x w2 ⟨rfl, rfl⟩
      refine ⟨_, rfl, D0.out, ?_⟩
      go_simp
      (refine h_read 7 rfl (by kernel_rfl) (by kernel_rfl) (h_free rfl) ?_ ?_ ?_; rotate_left; (focus (intro v hv; go_simp; rfl)); go_simp)
      (refine h_read 8 rfl (by kernel_rfl) (by kernel_rfl) (h_free rfl) ?_ ?_ ?_; rotate_left; (focus (intro v hv; go_simp; rfl)); go_simp)
      (refine h_read 9 rfl (by kernel_rfl) (by kernel_rfl) (h_free rfl) ?_ ?_ ?_; rotate_left; (focus (intro v hv; have hbv := B1.out.trans (hv.mono B1.out.size); have H9 := HG.out.mono hbv; obtain ⟨c0, c1, c2, c3, c4⟩ := H9.row.c5; rw [HE1.out] at c4; have x9 := (hbv.cell (p := ⟨x1, o1 + k * 4 + 1, none⟩) (World.block_lt_of_cell? w _ X1.out)).trans X1.out; go_simp; rfl)); go_simp)
      (refine h_read 10 rfl (by kernel_rfl) (by kernel_rfl) (h_free rfl) ?_ ?_ ?_; rotate_left; (focus (intro v hv; go_simp; rfl)); go_simp)
      (refine h_read 11 rfl (by kernel_rfl) (by kernel_rfl) (h_free rfl) ?_ ?_ ?_; rotate_left; (focus (intro v hv; go_simp; rfl)); go_simp)
      refine h_done (by kernel_rfl) ?_
      go_wp2_with fail
      go_ret2
      exact ⟨rfl, B1.out.trans (D0.out.mono B1.out.size)⟩
set_option maxRecDepth 100000 in
set_option maxHeartbeats 4000000 in
theorem glastT (p : Nat) (F : Nat → Prop) (b t c : Int) (ea : Option Addr) (en ec : Nat) (L : List (En × List UInt8)) (w : World) (h : LG w p F b t c ea en ec L) (ho : LOK (lsOf b t c L)) : Calls Try.prog 31 #[.pointer (some ⟨p, 0, none⟩)] w fun x w' => x = .returned (.int .i64 ((lsOf b t c L).term (lsOf b t c L).last)) ∧ Below w.heap.size w w' := by
  have GL := Lib.hid (fun (W : World) (hb : Below w.heap.size w W) => glast p F b t c ea en ec L W (h.mono hb) ho)
  have GT := Lib.hid (fun (W : World) (hb : Below w.heap.size w W) => gterm p F b t c ea en ec L (lsOf b t c L).last W (h.mono hb) ho)
  obtain ⟨z, hz⟩ : ∃ z, (lsOf b t c L).last = z := ⟨_, rfl⟩
  rw [hz] at GL GT ⊢
  obtain ⟨y, hy⟩ : ∃ y, (lsOf b t c L).term z = y := ⟨_, rfl⟩
  rw [hy] at GT ⊢
  obtain ⟨ye, hye⟩ : ∃ y, (lsOf b t c L).termE z = y := ⟨_, rfl⟩
  rw [hye] at GT
  clear h ho hz hy hye
  go_enter Try.func31, Try.ntmps31
  go_wp2_with (first | (go_at_call 30; refine (GL.out w (Below.refl _ _)).mono ?_; rintro x w1 ⟨rfl, hb1⟩; have B1 := Lib.hid hb1; clear hb1) | (go_at_call 34; refine (GT.out w1 B1.out).mono ?_; rintro x w2 ⟨rfl, hb2⟩; have B2 := Lib.hid (B1.out.trans (hb2.mono B1.out.size)); clear hb2))
  go_ret
  exact ⟨rfl, B2.out⟩
end Go.Proofs.Ytnlbdgaleibgcaa.W
