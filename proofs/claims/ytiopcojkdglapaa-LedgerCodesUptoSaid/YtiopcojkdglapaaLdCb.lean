/- LAYER 19 (ledger): Put of the reference. -/
import Derived.Test.YtiopcojkdglapaaLdCa
import Derived.Test.YtiopcojkdglapaaLdW
set_option linter.unusedSimpArgs false
set_option linter.unusedVariables false
namespace Go.Proofs.Ytiopcojkdglapaa.W
open Go Go.ChangeShapes Go.WideShapes Go.ChangeAt Go.RowKit
open Go.Proofs.Ytiopcojkdglapaa.P (enc dec)
open Go.Proofs.Ytiopcojkdglapaa.B (hasV)

set_option maxRecDepth 100000 in
set_option maxHeartbeats 16000000 in
theorem yput (a0 : Option Addr) (m0 c0 : Nat) (S : List UInt8) (q u h' nx : Int) (a : Option Addr) (n c : Nat) (L : List Hd) (w : World) (hr : Rd w a0 m0 c0 S) (hm0 : m0 ≤ 2000000) (h : Ls hdE w a n c L) (hn : n ≤ 100) (hnm : ∀ s ∈ L, s.sp.size ≤ 2000000) (iq : SI64 q) (iu : SI64 u) (ih : SI64 h') (ix : SI64 nx) :
    Calls Try.prog 55 #[.slice a0 m0 c0, .agg (ldC q u h' nx a n c).toArray] w fun x w' => ∃ v, x = .returned v ∧ Fr w' w.heap.size v (S ++ putLd ⟨q, u, h', nx, L⟩) ∧ Below w.heap.size w w' := by
  have H := Lib.hid h
  have HL := Lib.hid h.hlen
  have hm := h.hmax
  have hle := h.hle
  have HR := Lib.hid hr
  have hSl := hr.hlen
  have iq2 := iq.2
  have iu2 := iu.2
  have ih2 := ih.2
  have ix2 := ix.2
  have HSZ := Lib.hid hd_size
  have MZ := Lib.hid hd_zero
  have HB := Lib.hid (fun k => codeH_all (L.take k) (fun s hs => ⟨h.hfit s (List.mem_of_mem_take hs), hnm s (List.mem_of_mem_take hs)⟩))
  have HNM := Lib.hid hnm
  obtain ⟨T1, hT1⟩ : ∃ ZZ, S ++ enc (q).toNat = ZZ := ⟨_, rfl⟩
  obtain ⟨q1, hq1⟩ : ∃ m, T1.length = m := ⟨_, rfl⟩
  have heT1 := P.enc_len (q).toNat (by omega)
  have hbT1 : q1 ≤ 2000000 + 1 * 9 := by rw [← hq1, ← hT1]; simp only [List.length_append]; omega
  have ET1 := Lib.hid hT1
  have Eq1 := Lib.hid hq1
  obtain ⟨T2, hT2⟩ : ∃ ZZ, T1 ++ enc (u).toNat = ZZ := ⟨_, rfl⟩
  obtain ⟨q2, hq2⟩ : ∃ m, T2.length = m := ⟨_, rfl⟩
  have heT2 := P.enc_len (u).toNat (by omega)
  have hbT2 : q2 ≤ 2000000 + 2 * 9 := by rw [← hq2, ← hT2]; simp only [List.length_append]; omega
  have ET2 := Lib.hid hT2
  have Eq2 := Lib.hid hq2
  obtain ⟨T3, hT3⟩ : ∃ ZZ, T2 ++ enc (h').toNat = ZZ := ⟨_, rfl⟩
  obtain ⟨q3, hq3⟩ : ∃ m, T3.length = m := ⟨_, rfl⟩
  have heT3 := P.enc_len (h').toNat (by omega)
  have hbT3 : q3 ≤ 2000000 + 3 * 9 := by rw [← hq3, ← hT3]; simp only [List.length_append]; omega
  have ET3 := Lib.hid hT3
  have Eq3 := Lib.hid hq3
  obtain ⟨T4, hT4⟩ : ∃ ZZ, T3 ++ enc (nx).toNat = ZZ := ⟨_, rfl⟩
  obtain ⟨q4, hq4⟩ : ∃ m, T4.length = m := ⟨_, rfl⟩
  have heT4 := P.enc_len (nx).toNat (by omega)
  have hbT4 : q4 ≤ 2000000 + 4 * 9 := by rw [← hq4, ← hT4]; simp only [List.length_append]; omega
  have ET4 := Lib.hid hT4
  have Eq4 := Lib.hid hq4
  obtain ⟨T5, hT5⟩ : ∃ ZZ, T4 ++ enc ((n : Int)).toNat = ZZ := ⟨_, rfl⟩
  obtain ⟨q5, hq5⟩ : ∃ m, T5.length = m := ⟨_, rfl⟩
  have heT5 := P.enc_len ((n : Int)).toNat (by omega)
  have hbT5 : q5 ≤ 2000000 + 5 * 9 := by rw [← hq5, ← hT5]; simp only [List.length_append]; omega
  have ET5 := Lib.hid hT5
  have Eq5 := Lib.hid hq5
  have hput : S ++ putLd ⟨q, u, h', nx, L⟩ = T5 ++ (L.take n).flatMap codeH := by
    rw [← hT5, ← hT4, ← hT3, ← hT2, ← hT1, List.take_of_length_le (by rw [h.hlen]; exact Nat.le_refl _)]; unfold putLd codeI; rw [h.hlen]; simp
  rw [hput]
  clear h hr hSl hnm hput hT1 hT2 hT3 hT4 hT5 hq1 hq2 hq3 hq4 hq5 heT1 heT2 heT3 heT4 heT5 iq iu ih ix
  go_enter Try.func55, Try.ntmps55
  go_wp2_with (first
    | ((with_reducible refine box_row (o := ⟨some 3, _, _, _, _, _⟩) rfl _ _ rfl (ldC q u h' nx a n c) rfl ?_); intro w1 hr hb hz; have R1 := Lib.hid hr; have B1 := Lib.hid hb; obtain ⟨c0', c1, c2, c3, c4⟩ := hr.l5; have C0 := Lib.hid c0'; have C1 := Lib.hid c1; have C2 := Lib.hid c2; have C3 := Lib.hid c3; have C4 := Lib.hid c4; clear hr hb hz c0' c1 c2 c3 c4))
  refine region_h (fun v => Below w1.heap.size w1 v) (by kernel_rfl) (by kernel_rfl) (Below.refl _ _).drew ?_
  obtain ⟨wd, hwd⟩ : ∃ wd, w1.drew = wd := ⟨_, rfl⟩
  have Jwd : Hid (Below w1.heap.size w1 wd) := Lib.hid (by rw [← hwd]; exact (Below.refl _ _).drew)
  rw [hwd]
  clear hwd
  (refine h_read 0 rfl (by kernel_rfl) (by kernel_rfl) (h_free rfl) ?_ ?_ ?_; rotate_left; (focus (intro v hv; go_simp; rfl)); go_simp)
  (refine h_read 1 rfl (by kernel_rfl) (by kernel_rfl) (h_free rfl) ?_ ?_ ?_; rotate_left; (focus (intro v hv; go_simp; rfl)); go_simp)
  (refine h_read 2 rfl (by kernel_rfl) (by kernel_rfl) (h_free rfl) ?_ ?_ ?_; rotate_left; (focus (intro v hv; have x0 := (hv.cell (p := ⟨w.heap.size, 0, none⟩) R1.out.lt).trans C0.out; have x1 := (hv.cell (p := ⟨w.heap.size, 1, none⟩) R1.out.lt).trans C1.out; have x2 := (hv.cell (p := ⟨w.heap.size, 2, none⟩) R1.out.lt).trans C2.out; have x3 := (hv.cell (p := ⟨w.heap.size, 3, none⟩) R1.out.lt).trans C3.out; have x4 := (hv.cell (p := ⟨w.heap.size, 4, none⟩) R1.out.lt).trans C4.out; go_simp; rfl)); go_simp)
  (refine h_read 4 rfl (by kernel_rfl) (by kernel_rfl) (h_free rfl) ?_ ?_ ?_; rotate_left; (focus (intro v hv; go_simp; rfl)); go_simp)
  (refine h_read 5 rfl (by kernel_rfl) (by kernel_rfl) (h_free rfl) ?_ ?_ ?_; rotate_left; (focus (intro v hv; have x0 := (hv.cell (p := ⟨w.heap.size, 0, none⟩) R1.out.lt).trans C0.out; have x1 := (hv.cell (p := ⟨w.heap.size, 1, none⟩) R1.out.lt).trans C1.out; have x2 := (hv.cell (p := ⟨w.heap.size, 2, none⟩) R1.out.lt).trans C2.out; have x3 := (hv.cell (p := ⟨w.heap.size, 3, none⟩) R1.out.lt).trans C3.out; have x4 := (hv.cell (p := ⟨w.heap.size, 4, none⟩) R1.out.lt).trans C4.out; go_simp; rfl)); go_simp)
  (refine h_read 7 rfl (by kernel_rfl) (by kernel_rfl) (h_free rfl) ?_ ?_ ?_; rotate_left; (focus (intro v hv; go_simp; rfl)); go_simp)
  (refine h_read 8 rfl (by kernel_rfl) (by kernel_rfl) (h_free rfl) ?_ ?_ ?_; rotate_left; (focus (intro v hv; have x0 := (hv.cell (p := ⟨w.heap.size, 0, none⟩) R1.out.lt).trans C0.out; have x1 := (hv.cell (p := ⟨w.heap.size, 1, none⟩) R1.out.lt).trans C1.out; have x2 := (hv.cell (p := ⟨w.heap.size, 2, none⟩) R1.out.lt).trans C2.out; have x3 := (hv.cell (p := ⟨w.heap.size, 3, none⟩) R1.out.lt).trans C3.out; have x4 := (hv.cell (p := ⟨w.heap.size, 4, none⟩) R1.out.lt).trans C4.out; go_simp; rfl)); go_simp)
  (refine h_call 3 rfl (by kernel_rfl) (h_free rfl) 88 ?_ ?_ ?_; rotate_left; (focus (go_simp; rfl)))
  refine (rnum a0 m0 c0 q S wd (HR.out.mono (B1.out.trans (Jwd.out.mono B1.out.size))) (by omega) (by omega)).mono ?_
  rw [ET1.out]
  rintro z x1 ⟨vx1, rfl, hf, hb⟩
  obtain ⟨ax1, cx1, hv, hr⟩ := hf.form' q1 Eq1.out
  subst hv
  have Rx1 := Lib.hid hr
  have Fx1 := Lib.hid hf
  have Jx1 := Lib.hid (Jwd.out.trans (hb.mono Jwd.out.size))
  clear hf hb hr
  refine ⟨_, rfl, Jx1.out, ?_⟩
  go_simp
  (refine h_call 6 rfl (by kernel_rfl) (h_free rfl) 88 ?_ ?_ ?_; rotate_left; (focus (go_simp; rfl)))
  refine (rnum ax1 q1 cx1 u T1 x1 Rx1.out (by omega) (by omega)).mono ?_
  rw [ET2.out]
  rintro z x2 ⟨vx2, rfl, hf, hb⟩
  obtain ⟨ax2, cx2, hv, hr⟩ := hf.form' q2 Eq2.out
  subst hv
  have Rx2 := Lib.hid hr
  have Fx2 := Lib.hid hf
  have Jx2 := Lib.hid (Jx1.out.trans (hb.mono Jx1.out.size))
  clear hf hb hr
  refine ⟨_, rfl, Jx2.out, ?_⟩
  go_simp
  (refine h_call 9 rfl (by kernel_rfl) (h_free rfl) 88 ?_ ?_ ?_; rotate_left; (focus (go_simp; rfl)))
  refine (rnum ax2 q2 cx2 h' T2 x2 Rx2.out (by omega) (by omega)).mono ?_
  rw [ET3.out]
  rintro z x3 ⟨vx3, rfl, hf, hb⟩
  obtain ⟨ax3, cx3, hv, hr⟩ := hf.form' q3 Eq3.out
  subst hv
  have Rx3 := Lib.hid hr
  have Fx3 := Lib.hid hf
  have Jx3 := Lib.hid (Jx2.out.trans (hb.mono Jx2.out.size))
  clear hf hb hr
  refine ⟨_, rfl, Jx3.out, ?_⟩
  go_simp
  (refine h_read 10 rfl (by kernel_rfl) (by kernel_rfl) (h_free rfl) ?_ ?_ ?_; rotate_left; (focus (intro v hv; go_simp; rfl)); go_simp)
  refine h_done (by kernel_rfl) ?_
  have RB := Lib.hid (R1.out.below Jx3.out R1.out.lt)
  have B3 := Lib.hid (B1.out.trans (Jx3.out.mono B1.out.size))
  obtain ⟨c0', c1, c2, c3, c4⟩ := RB.out.l5
  have D0 := Lib.hid c0'
  have D1 := Lib.hid c1
  have D2 := Lib.hid c2
  have D3 := Lib.hid c3
  have D4 := Lib.hid c4
  clear c0' c1 c2 c3 c4
  go_wp2_with fail
  refine region_h (fun v => Below x3.heap.size x3 v) (by kernel_rfl) (by kernel_rfl) (Below.refl _ _).drew ?_
  obtain ⟨we, hwe⟩ : ∃ wd, x3.drew = wd := ⟨_, rfl⟩
  have Jwe : Hid (Below x3.heap.size x3 we) := Lib.hid (by rw [← hwe]; exact (Below.refl _ _).drew)
  rw [hwe]
  clear hwe
  (refine h_read 0 rfl (by kernel_rfl) (by kernel_rfl) (h_free rfl) ?_ ?_ ?_; rotate_left; (focus (intro v hv; go_simp; rfl)); go_simp)
  (refine h_read 1 rfl (by kernel_rfl) (by kernel_rfl) (h_free rfl) ?_ ?_ ?_; rotate_left; (focus (intro v hv; go_simp; rfl)); go_simp)
  (refine h_read 2 rfl (by kernel_rfl) (by kernel_rfl) (h_free rfl) ?_ ?_ ?_; rotate_left; (focus (intro v hv; have x0 := (hv.cell (p := ⟨w.heap.size, 0, none⟩) RB.out.lt).trans D0.out; have x1 := (hv.cell (p := ⟨w.heap.size, 1, none⟩) RB.out.lt).trans D1.out; have x2 := (hv.cell (p := ⟨w.heap.size, 2, none⟩) RB.out.lt).trans D2.out; have x3 := (hv.cell (p := ⟨w.heap.size, 3, none⟩) RB.out.lt).trans D3.out; have x4 := (hv.cell (p := ⟨w.heap.size, 4, none⟩) RB.out.lt).trans D4.out; go_simp; rfl)); go_simp)
  (refine h_read 4 rfl (by kernel_rfl) (by kernel_rfl) (h_free rfl) ?_ ?_ ?_; rotate_left; (focus (intro v hv; go_simp; rfl)); go_simp)
  (refine h_read 5 rfl (by kernel_rfl) (by kernel_rfl) (h_free rfl) ?_ ?_ ?_; rotate_left; (focus (intro v hv; have x0 := (hv.cell (p := ⟨w.heap.size, 0, none⟩) RB.out.lt).trans D0.out; have x1 := (hv.cell (p := ⟨w.heap.size, 1, none⟩) RB.out.lt).trans D1.out; have x2 := (hv.cell (p := ⟨w.heap.size, 2, none⟩) RB.out.lt).trans D2.out; have x3 := (hv.cell (p := ⟨w.heap.size, 3, none⟩) RB.out.lt).trans D3.out; have x4 := (hv.cell (p := ⟨w.heap.size, 4, none⟩) RB.out.lt).trans D4.out; go_simp; rfl)); go_simp)
  (refine h_read 6 rfl (by kernel_rfl) (by kernel_rfl) (h_free rfl) ?_ ?_ ?_; rotate_left; (focus (intro v hv; go_simp; rfl)); go_simp)
  (refine h_call 3 rfl (by kernel_rfl) (h_free rfl) 88 ?_ ?_ ?_; rotate_left; (focus (go_simp; rfl)))
  refine (rnum ax3 q3 cx3 nx T3 we (Rx3.out.mono Jwe.out) (by omega) (by omega)).mono ?_
  rw [ET4.out]
  rintro z x4 ⟨vx4, rfl, hf, hb⟩
  obtain ⟨ax4, cx4, hv, hr⟩ := hf.form' q4 Eq4.out
  subst hv
  have Rx4 := Lib.hid hr
  have Fx4 := Lib.hid hf
  have Jx4 := Lib.hid (Jwe.out.trans (hb.mono Jwe.out.size))
  clear hf hb hr
  refine ⟨_, rfl, Jx4.out, ?_⟩
  go_simp
  (refine h_call 7 rfl (by kernel_rfl) (h_free rfl) 88 ?_ ?_ ?_; rotate_left; (focus (go_simp; rfl)))
  refine (rnum ax4 q4 cx4 (n : Int) T4 x4 Rx4.out (by omega) (by omega)).mono ?_
  rw [ET5.out]
  rintro z x5 ⟨vx5, rfl, hf, hb⟩
  obtain ⟨ax5, cx5, hv, hr⟩ := hf.form' q5 Eq5.out
  subst hv
  have Rx5 := Lib.hid hr
  have Fx5 := Lib.hid hf
  have Jx5 := Lib.hid (Jx4.out.trans (hb.mono Jx4.out.size))
  clear hf hb hr
  refine ⟨_, rfl, Jx5.out, ?_⟩
  go_simp
  (refine h_read 8 rfl (by kernel_rfl) (by kernel_rfl) (h_free rfl) ?_ ?_ ?_; rotate_left; (focus (intro v hv; go_simp; rfl)); go_simp)
  refine h_done (by kernel_rfl) ?_
  have RC := Lib.hid (RB.out.below Jx5.out RB.out.lt)
  have B5 := Lib.hid (B3.out.trans (Jx5.out.mono B3.out.size))
  have F5 := Lib.hid (Fx5.out.base (Nat.le_trans B3.out.size Jx4.out.size))
  go_wp2_with fail
  go_loopw [0, 5] (fun v i wr => ∃ (k : Nat) (x : Option Addr) (l cc : Nat), v = .slice x l cc ∧ i = .int .i64 (k : Int) ∧ k ≤ n ∧ Hid (Fr wr w.heap.size (.slice x l cc) (T5 ++ (L.take k).flatMap codeH)) ∧ Hid (Row wr w.heap.size 50 (ldC q u h' nx a n c)) ∧ Hid (Below w.heap.size w wr)) (fun _ i _ => n - (intOf i).toNat)
  case atStart => exact ⟨0, _, _, _, rfl, rfl, Nat.zero_le _, Lib.hid (by simpa using F5.out), RC, B5⟩
  case round =>
    obtain ⟨k, x, l, cc, rfl, rfl, hk, HF, RL, B⟩ := hrel
    obtain ⟨c0', c1, c2, c3, c4⟩ := RL.out.l5
    clear c0' c1 c2 c3
    by_cases hlt : k < n
    · obtain ⟨b, o, s, rfl, hx, hcell, hfs⟩ := H.out.at hdOk B.out k hlt
      obtain ⟨i1, i2, i3, i4, i5, sp⟩ := s
      have hstep := codeH_step L k _ hx
      have hmem : (⟨i1, i2, i3, i4, i5, sp⟩ : Hd) ∈ L := by
        obtain ⟨h1, h2⟩ := List.getElem?_eq_some_iff.1 hx
        rw [← h2]; exact List.getElem_mem h1
      have hns : sp.size ≤ 2000000 := HNM.out _ hmem
      have hns2 : sp.data.toList.length ≤ 2000000 := hns
      have hbl := HB.out k
      have hlk : (L.take k).length ≤ 100 := by rw [List.length_take]; omega
      have hcur : (T5 ++ (L.take k).flatMap codeH).length ≤ 250000000 := by
        rw [List.length_append, Eq5.out]; have : (L.take k).length * 2000054 ≤ 100 * 2000054 := Nat.mul_le_mul_right _ hlk; omega
      obtain ⟨U, hU⟩ : ∃ U, T5 ++ (L.take k).flatMap codeH = U := ⟨_, rfl⟩
      rw [hU] at HF hcur
      have f1 : i1 ≤ 9223372036854775807 := hfs.id.2
      have f2 : i2 ≤ 9223372036854775807 := hfs.cl.2
      have f3 : i3 ≤ 9223372036854775807 := hfs.by'.2
      have f4 : i4 ≤ 9223372036854775807 := hfs.un.2
      have f5 : i5 ≤ 9223372036854775807 := hfs.ti.2
      obtain ⟨U1, hU1⟩ : ∃ ZZ, U ++ enc (i1).toNat = ZZ := ⟨_, rfl⟩
      obtain ⟨r1, hr1⟩ : ∃ m, U1.length = m := ⟨_, rfl⟩
      have heU1 := P.enc_len (i1).toNat (by omega)
      have hbU1 : r1 ≤ 250000000 + 1 * 9 := by rw [← hr1, ← hU1]; simp only [List.length_append]; omega
      have EU1 := Lib.hid hU1
      have Er1 := Lib.hid hr1
      obtain ⟨U2, hU2⟩ : ∃ ZZ, U1 ++ enc (i2).toNat = ZZ := ⟨_, rfl⟩
      obtain ⟨r2, hr2⟩ : ∃ m, U2.length = m := ⟨_, rfl⟩
      have heU2 := P.enc_len (i2).toNat (by omega)
      have hbU2 : r2 ≤ 250000000 + 2 * 9 := by rw [← hr2, ← hU2]; simp only [List.length_append]; omega
      have EU2 := Lib.hid hU2
      have Er2 := Lib.hid hr2
      obtain ⟨U3, hU3⟩ : ∃ ZZ, U2 ++ enc (i3).toNat = ZZ := ⟨_, rfl⟩
      obtain ⟨r3, hr3⟩ : ∃ m, U3.length = m := ⟨_, rfl⟩
      have heU3 := P.enc_len (i3).toNat (by omega)
      have hbU3 : r3 ≤ 250000000 + 3 * 9 := by rw [← hr3, ← hU3]; simp only [List.length_append]; omega
      have EU3 := Lib.hid hU3
      have Er3 := Lib.hid hr3
      obtain ⟨U4, hU4⟩ : ∃ ZZ, U3 ++ enc (i4).toNat = ZZ := ⟨_, rfl⟩
      obtain ⟨r4, hr4⟩ : ∃ m, U4.length = m := ⟨_, rfl⟩
      have heU4 := P.enc_len (i4).toNat (by omega)
      have hbU4 : r4 ≤ 250000000 + 4 * 9 := by rw [← hr4, ← hU4]; simp only [List.length_append]; omega
      have EU4 := Lib.hid hU4
      have Er4 := Lib.hid hr4
      obtain ⟨U5, hU5⟩ : ∃ ZZ, U4 ++ enc (i5).toNat = ZZ := ⟨_, rfl⟩
      obtain ⟨r5, hr5⟩ : ∃ m, U5.length = m := ⟨_, rfl⟩
      have heU5 := P.enc_len (i5).toNat (by omega)
      have hbU5 : r5 ≤ 250000000 + 5 * 9 := by rw [← hr5, ← hU5]; simp only [List.length_append]; omega
      have EU5 := Lib.hid hU5
      have Er5 := Lib.hid hr5
      obtain ⟨U6, hU6⟩ : ∃ ZZ, U5 ++ (enc sp.size ++ sp.data.toList) = ZZ := ⟨_, rfl⟩
      obtain ⟨r6, hr6⟩ : ∃ m, U6.length = m := ⟨_, rfl⟩
      have heU6 := P.enc_len sp.size (by omega)
      have hbU6 : r6 ≤ 250000000 + 6 * 9 + 2000000 := by rw [← hr6, ← hU6]; simp only [List.length_append]; omega
      have EU6 := Lib.hid hU6
      have Er6 := Lib.hid hr6
      have HST := Lib.hid (show T5 ++ (L.take (k + 1)).flatMap codeH = U6 by
        rw [hstep, ← hU6, ← hU5, ← hU4, ← hU3, ← hU2, ← hU1, ← hU]; simp [codeH, codeI])
      obtain ⟨m, hu⟩ : ∃ q, U.length = q := ⟨_, rfl⟩
      obtain ⟨x', c', hv, hrd⟩ := HF.out.form' m hu
      have hxl : l = m ∧ x = x' ∧ cc = c' := by injection hv with e1 e2 e3; exact ⟨e2, e1, e3⟩
      obtain ⟨rfl, rfl, rfl⟩ := hxl
      have RU := Lib.hid hrd
      have XC := Lib.hid hcell
      have g1 : (0 : Int) ≤ (k : Int) := by omega
      have g2 : (k : Int) < (n : Int) := by omega
      rw [hu] at hcur
      clear hstep hmem hbl hlk hU hv hrd hcell hfs hx hu HF hU1 hU2 hU3 hU4 hU5 hU6 hr1 hr2 hr3 hr4 hr5 hr6 heU1 heU2 heU3 heU4 heU5 heU6
      go_wp2_with (first
        | ((with_reducible refine load_cells (o := ⟨some 36, _, _, _, _, _⟩) rfl _ _ rfl b (o + k * 6) ?_ [.int .i64 i1, .int .i64 i2, .int .i64 i3, .int .i64 i4, .int .i64 i5, .string sp] _ XC.out Try.underlying52 rfl ?_ ?_); (focus go_simp); (focus (exact HSZ.out)))
        | ((with_reducible refine alloc_row (o := ⟨some 6, _, _, _, _, _⟩) rfl _ rfl _ MZ.out ?_); intro w5 hr hb hz; have RH5 := Lib.hid hr; have RL5 := Lib.hid (RL.out.below hb RL.out.lt); have RU5 := Lib.hid (RU.out.mono hb); have BR5 := Lib.hid hb; have B5' := Lib.hid (B.out.trans (hb.mono B.out.size)); clear hr hb hz)
        | ((with_reducible refine store_row (o := ⟨none, _, _, _, _, _⟩) rfl _ (.tmp 6) _ rfl wr.heap.size [.int .i64 i1, .int .i64 i2, .int .i64 i3, .int .i64 i4, .int .i64 i5, .string sp] ?_ ?_ 52 _ RH5.out ?_ ?_ ?_ ?_); (focus go_simp); (focus (first | (go_simp; done) | (go_simp; rfl))); (focus (exact HSZ.out)); (focus rfl); (focus (exact hd_one ⟨i1, i2, i3, i4, i5, sp⟩)); intro w6 hr hu; have RH6 := Lib.hid hr; have RL6 := Lib.hid (RL5.out.upd hu (Nat.ne_of_lt RL.out.lt)); have BR6 := Lib.hid (BR5.out.trans (hu.below (Nat.le_refl _))); have RU6 := Lib.hid (RU.out.mono BR6.out); have B6 := Lib.hid (B5'.out.trans (hu.below B.out.size)); obtain ⟨d0, d1, d2, d3, d4, d5⟩ := hr.h6; have G0 := Lib.hid d0; have G1 := Lib.hid d1; have G2 := Lib.hid d2; have G3 := Lib.hid d3; have G4 := Lib.hid d4; have G5 := Lib.hid d5; clear hr hu d0 d1 d2 d3 d4 d5 c4))
      refine region_h (fun v => Below w6.heap.size w6 v) (by kernel_rfl) (by kernel_rfl) (Below.refl _ _).drew ?_
      obtain ⟨wd, hwd⟩ : ∃ wd, w6.drew = wd := ⟨_, rfl⟩
      have Jwd : Hid (Below w6.heap.size w6 wd) := Lib.hid (by rw [← hwd]; exact (Below.refl _ _).drew)
      rw [hwd]
      clear hwd
      (refine h_read 0 rfl (by kernel_rfl) (by kernel_rfl) (h_free rfl) ?_ ?_ ?_; rotate_left; (focus (intro v hv; go_simp; rfl)); go_simp)
      (refine h_read 1 rfl (by kernel_rfl) (by kernel_rfl) (h_free rfl) ?_ ?_ ?_; rotate_left; (focus (intro v hv; go_simp; rfl)); go_simp)
      (refine h_read 2 rfl (by kernel_rfl) (by kernel_rfl) (h_free rfl) ?_ ?_ ?_; rotate_left; (focus (intro v hv; have x0 := (hv.cell (p := ⟨wr.heap.size, 0, none⟩) RH6.out.lt).trans G0.out; have x1 := (hv.cell (p := ⟨wr.heap.size, 1, none⟩) RH6.out.lt).trans G1.out; have x2 := (hv.cell (p := ⟨wr.heap.size, 2, none⟩) RH6.out.lt).trans G2.out; have x3 := (hv.cell (p := ⟨wr.heap.size, 3, none⟩) RH6.out.lt).trans G3.out; have x4 := (hv.cell (p := ⟨wr.heap.size, 4, none⟩) RH6.out.lt).trans G4.out; have x5 := (hv.cell (p := ⟨wr.heap.size, 5, none⟩) RH6.out.lt).trans G5.out; go_simp; rfl)); go_simp)
      (refine h_read 4 rfl (by kernel_rfl) (by kernel_rfl) (h_free rfl) ?_ ?_ ?_; rotate_left; (focus (intro v hv; go_simp; rfl)); go_simp)
      (refine h_read 5 rfl (by kernel_rfl) (by kernel_rfl) (h_free rfl) ?_ ?_ ?_; rotate_left; (focus (intro v hv; have x0 := (hv.cell (p := ⟨wr.heap.size, 0, none⟩) RH6.out.lt).trans G0.out; have x1 := (hv.cell (p := ⟨wr.heap.size, 1, none⟩) RH6.out.lt).trans G1.out; have x2 := (hv.cell (p := ⟨wr.heap.size, 2, none⟩) RH6.out.lt).trans G2.out; have x3 := (hv.cell (p := ⟨wr.heap.size, 3, none⟩) RH6.out.lt).trans G3.out; have x4 := (hv.cell (p := ⟨wr.heap.size, 4, none⟩) RH6.out.lt).trans G4.out; have x5 := (hv.cell (p := ⟨wr.heap.size, 5, none⟩) RH6.out.lt).trans G5.out; go_simp; rfl)); go_simp)
      (refine h_read 7 rfl (by kernel_rfl) (by kernel_rfl) (h_free rfl) ?_ ?_ ?_; rotate_left; (focus (intro v hv; go_simp; rfl)); go_simp)
      (refine h_read 8 rfl (by kernel_rfl) (by kernel_rfl) (h_free rfl) ?_ ?_ ?_; rotate_left; (focus (intro v hv; have x0 := (hv.cell (p := ⟨wr.heap.size, 0, none⟩) RH6.out.lt).trans G0.out; have x1 := (hv.cell (p := ⟨wr.heap.size, 1, none⟩) RH6.out.lt).trans G1.out; have x2 := (hv.cell (p := ⟨wr.heap.size, 2, none⟩) RH6.out.lt).trans G2.out; have x3 := (hv.cell (p := ⟨wr.heap.size, 3, none⟩) RH6.out.lt).trans G3.out; have x4 := (hv.cell (p := ⟨wr.heap.size, 4, none⟩) RH6.out.lt).trans G4.out; have x5 := (hv.cell (p := ⟨wr.heap.size, 5, none⟩) RH6.out.lt).trans G5.out; go_simp; rfl)); go_simp)
      (refine h_call 3 rfl (by kernel_rfl) (h_free rfl) 88 ?_ ?_ ?_; rotate_left; (focus (go_simp; rfl)))
      refine (rnum x l cc i1 U wd (RU6.out.mono Jwd.out) (by omega) (by omega)).mono ?_
      rw [EU1.out]
      rintro z y1 ⟨vy1, rfl, hf, hb⟩
      obtain ⟨ay1, cy1, hv, hr⟩ := hf.form' r1 Er1.out
      subst hv
      have Ry1 := Lib.hid hr
      have Fy1 := Lib.hid hf
      have Jy1 := Lib.hid (Jwd.out.trans (hb.mono Jwd.out.size))
      clear hf hb hr
      refine ⟨_, rfl, Jy1.out, ?_⟩
      go_simp
      (refine h_call 6 rfl (by kernel_rfl) (h_free rfl) 88 ?_ ?_ ?_; rotate_left; (focus (go_simp; rfl)))
      refine (rnum ay1 r1 cy1 i2 U1 y1 Ry1.out (by omega) (by omega)).mono ?_
      rw [EU2.out]
      rintro z y2 ⟨vy2, rfl, hf, hb⟩
      obtain ⟨ay2, cy2, hv, hr⟩ := hf.form' r2 Er2.out
      subst hv
      have Ry2 := Lib.hid hr
      have Fy2 := Lib.hid hf
      have Jy2 := Lib.hid (Jy1.out.trans (hb.mono Jy1.out.size))
      clear hf hb hr
      refine ⟨_, rfl, Jy2.out, ?_⟩
      go_simp
      (refine h_call 9 rfl (by kernel_rfl) (h_free rfl) 88 ?_ ?_ ?_; rotate_left; (focus (go_simp; rfl)))
      refine (rnum ay2 r2 cy2 i3 U2 y2 Ry2.out (by omega) (by omega)).mono ?_
      rw [EU3.out]
      rintro z y3 ⟨vy3, rfl, hf, hb⟩
      obtain ⟨ay3, cy3, hv, hr⟩ := hf.form' r3 Er3.out
      subst hv
      have Ry3 := Lib.hid hr
      have Fy3 := Lib.hid hf
      have Jy3 := Lib.hid (Jy2.out.trans (hb.mono Jy2.out.size))
      clear hf hb hr
      refine ⟨_, rfl, Jy3.out, ?_⟩
      go_simp
      (refine h_read 10 rfl (by kernel_rfl) (by kernel_rfl) (h_free rfl) ?_ ?_ ?_; rotate_left; (focus (intro v hv; go_simp; rfl)); go_simp)
      refine h_done (by kernel_rfl) ?_
      have RH7 := Lib.hid (RH6.out.below Jy3.out RH6.out.lt)
      have RL7 := Lib.hid (RL6.out.below Jy3.out RL6.out.lt)
      have B7 := Lib.hid (B6.out.trans (Jy3.out.mono B6.out.size))
      obtain ⟨d0, d1, d2, d3, d4, d5⟩ := RH7.out.h6
      have K0 := Lib.hid d0
      have K1 := Lib.hid d1
      have K2 := Lib.hid d2
      have K3 := Lib.hid d3
      have K4 := Lib.hid d4
      have K5 := Lib.hid d5
      clear d0 d1 d2 d3 d4 d5
      go_wp2_with fail
      refine region_h (fun v => Below y3.heap.size y3 v) (by kernel_rfl) (by kernel_rfl) (Below.refl _ _).drew ?_
      obtain ⟨we, hwe⟩ : ∃ wd, y3.drew = wd := ⟨_, rfl⟩
      have Jwe : Hid (Below y3.heap.size y3 we) := Lib.hid (by rw [← hwe]; exact (Below.refl _ _).drew)
      rw [hwe]
      clear hwe
      (refine h_read 0 rfl (by kernel_rfl) (by kernel_rfl) (h_free rfl) ?_ ?_ ?_; rotate_left; (focus (intro v hv; go_simp; rfl)); go_simp)
      (refine h_read 1 rfl (by kernel_rfl) (by kernel_rfl) (h_free rfl) ?_ ?_ ?_; rotate_left; (focus (intro v hv; go_simp; rfl)); go_simp)
      (refine h_read 2 rfl (by kernel_rfl) (by kernel_rfl) (h_free rfl) ?_ ?_ ?_; rotate_left; (focus (intro v hv; have x0 := (hv.cell (p := ⟨wr.heap.size, 0, none⟩) RH7.out.lt).trans K0.out; have x1 := (hv.cell (p := ⟨wr.heap.size, 1, none⟩) RH7.out.lt).trans K1.out; have x2 := (hv.cell (p := ⟨wr.heap.size, 2, none⟩) RH7.out.lt).trans K2.out; have x3 := (hv.cell (p := ⟨wr.heap.size, 3, none⟩) RH7.out.lt).trans K3.out; have x4 := (hv.cell (p := ⟨wr.heap.size, 4, none⟩) RH7.out.lt).trans K4.out; have x5 := (hv.cell (p := ⟨wr.heap.size, 5, none⟩) RH7.out.lt).trans K5.out; go_simp; rfl)); go_simp)
      (refine h_read 4 rfl (by kernel_rfl) (by kernel_rfl) (h_free rfl) ?_ ?_ ?_; rotate_left; (focus (intro v hv; go_simp; rfl)); go_simp)
      (refine h_read 5 rfl (by kernel_rfl) (by kernel_rfl) (h_free rfl) ?_ ?_ ?_; rotate_left; (focus (intro v hv; have x0 := (hv.cell (p := ⟨wr.heap.size, 0, none⟩) RH7.out.lt).trans K0.out; have x1 := (hv.cell (p := ⟨wr.heap.size, 1, none⟩) RH7.out.lt).trans K1.out; have x2 := (hv.cell (p := ⟨wr.heap.size, 2, none⟩) RH7.out.lt).trans K2.out; have x3 := (hv.cell (p := ⟨wr.heap.size, 3, none⟩) RH7.out.lt).trans K3.out; have x4 := (hv.cell (p := ⟨wr.heap.size, 4, none⟩) RH7.out.lt).trans K4.out; have x5 := (hv.cell (p := ⟨wr.heap.size, 5, none⟩) RH7.out.lt).trans K5.out; go_simp; rfl)); go_simp)
      (refine h_read 7 rfl (by kernel_rfl) (by kernel_rfl) (h_free rfl) ?_ ?_ ?_; rotate_left; (focus (intro v hv; go_simp; rfl)); go_simp)
      (refine h_read 8 rfl (by kernel_rfl) (by kernel_rfl) (h_free rfl) ?_ ?_ ?_; rotate_left; (focus (intro v hv; have x0 := (hv.cell (p := ⟨wr.heap.size, 0, none⟩) RH7.out.lt).trans K0.out; have x1 := (hv.cell (p := ⟨wr.heap.size, 1, none⟩) RH7.out.lt).trans K1.out; have x2 := (hv.cell (p := ⟨wr.heap.size, 2, none⟩) RH7.out.lt).trans K2.out; have x3 := (hv.cell (p := ⟨wr.heap.size, 3, none⟩) RH7.out.lt).trans K3.out; have x4 := (hv.cell (p := ⟨wr.heap.size, 4, none⟩) RH7.out.lt).trans K4.out; have x5 := (hv.cell (p := ⟨wr.heap.size, 5, none⟩) RH7.out.lt).trans K5.out; go_simp; rfl)); go_simp)
      (refine h_call 3 rfl (by kernel_rfl) (h_free rfl) 88 ?_ ?_ ?_; rotate_left; (focus (go_simp; rfl)))
      refine (rnum ay3 r3 cy3 i4 U3 we (Ry3.out.mono Jwe.out) (by omega) (by omega)).mono ?_
      rw [EU4.out]
      rintro z y4 ⟨vy4, rfl, hf, hb⟩
      obtain ⟨ay4, cy4, hv, hr⟩ := hf.form' r4 Er4.out
      subst hv
      have Ry4 := Lib.hid hr
      have Fy4 := Lib.hid hf
      have Jy4 := Lib.hid (Jwe.out.trans (hb.mono Jwe.out.size))
      clear hf hb hr
      refine ⟨_, rfl, Jy4.out, ?_⟩
      go_simp
      (refine h_call 6 rfl (by kernel_rfl) (h_free rfl) 88 ?_ ?_ ?_; rotate_left; (focus (go_simp; rfl)))
      refine (rnum ay4 r4 cy4 i5 U4 y4 Ry4.out (by omega) (by omega)).mono ?_
      rw [EU5.out]
      rintro z y5 ⟨vy5, rfl, hf, hb⟩
      obtain ⟨ay5, cy5, hv, hr⟩ := hf.form' r5 Er5.out
      subst hv
      have Ry5 := Lib.hid hr
      have Fy5 := Lib.hid hf
      have Jy5 := Lib.hid (Jy4.out.trans (hb.mono Jy4.out.size))
      clear hf hb hr
      refine ⟨_, rfl, Jy5.out, ?_⟩
      go_simp
      (refine h_call 9 rfl (by kernel_rfl) (h_free rfl) 89 ?_ ?_ ?_; rotate_left; (focus (go_simp; rfl)))
      refine (rtext ay5 r5 cy5 sp U5 y5 Ry5.out (by omega) (by omega)).mono ?_
      rw [EU6.out]
      rintro z y6 ⟨vy6, rfl, hf, hb⟩
      obtain ⟨ay6, cy6, hv, hr⟩ := hf.form' r6 Er6.out
      subst hv
      have Ry6 := Lib.hid hr
      have Fy6 := Lib.hid hf
      have Jy6 := Lib.hid (Jy5.out.trans (hb.mono Jy5.out.size))
      clear hf hb hr
      refine ⟨_, rfl, Jy6.out, ?_⟩
      go_simp
      (refine h_read 10 rfl (by kernel_rfl) (by kernel_rfl) (h_free rfl) ?_ ?_ ?_; rotate_left; (focus (intro v hv; go_simp; rfl)); go_simp)
      refine h_done (by kernel_rfl) ?_
      have RL8 := Lib.hid (RL7.out.below Jy6.out RL7.out.lt)
      have B8 := Lib.hid (B7.out.trans (Jy6.out.mono B7.out.size))
      have F8 := Lib.hid (Fy6.out.base (Nat.le_trans B7.out.size Jy5.out.size))
      go_wp2_with fail
      go_roundw
      case rel => exact ⟨k + 1, _, _, _, rfl, vint (by omega), by omega, by (rw [HST.out]; exact F8), RL8, B8⟩
      case measure => simp [intOf]; omega
    · obtain rfl : n = k := by omega
      go_wp2_with fail
      go_ret
      exact ⟨_, rfl, HF.out, B.out⟩
end Go.Proofs.Ytiopcojkdglapaa.W
