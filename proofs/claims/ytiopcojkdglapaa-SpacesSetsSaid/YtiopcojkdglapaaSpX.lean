/- LAYER 18 (spaces): Put of the reference. -/
import Derived.Test.YtiopcojkdglapaaSpT
set_option linter.unusedSimpArgs false
set_option linter.unusedVariables false
namespace Go.Proofs.Ytiopcojkdglapaa.W
open Go Go.ChangeShapes Go.WideShapes Go.ChangeAt Go.RowKit
open Go.Proofs.Ytiopcojkdglapaa.P (enc dec)
open Go.Proofs.Ytiopcojkdglapaa.B (hasV)

-- ---- Put
theorem codeS_len {s : Sp} (h : s.fit) (hn : s.name.size ≤ 2000000) : (codeS s).length ≤ 2000027 := by
  obtain ⟨-, h1, h2⟩ := h
  have e1 := P.enc_len s.name.size (by omega)
  have e2 := P.enc_len s.rd.toNat (by have := h1.2; omega)
  have e3 := P.enc_len s.wr.toNat (by have := h2.2; omega)
  have e4 : s.name.data.toList.length = s.name.size := rfl
  unfold codeS
  simp only [List.length_append]
  omega
theorem codeS_all : ∀ (L : List Sp), (∀ s ∈ L, s.fit ∧ s.name.size ≤ 2000000) → (L.flatMap codeS).length ≤ L.length * 2000027
  | [], _ => by simp
  | s :: L, h => by
    have h1 := codeS_len (h s (by simp)).1 (h s (by simp)).2
    have h2 := codeS_all L (fun x hx => h x (by simp [hx]))
    rw [List.flatMap_cons, List.length_append, List.length_cons]; omega
theorem codeS_step (L : List Sp) (k : Nat) (s : Sp) (h : L[k]? = some s) : (L.take (k + 1)).flatMap codeS = (L.take k).flatMap codeS ++ codeS s := by
  obtain ⟨h1, h2⟩ := List.getElem?_eq_some_iff.1 h
  rw [List.take_succ_eq_append_getElem h1, List.flatMap_append, h2]; simp
set_option maxRecDepth 100000 in
set_option maxHeartbeats 16000000 in
theorem zput (a0 : Option Addr) (m0 c0 : Nat) (S : List UInt8) (a : Option Addr) (n c : Nat) (L : List Sp) (w : World) (hr : Rd w a0 m0 c0 S) (hm0 : m0 ≤ 2000000) (h : Ls spE w a n c L) (hn : n ≤ 100) (hnm : ∀ s ∈ L, s.name.size ≤ 2000000) :
    Calls Try.prog 33 #[.slice a0 m0 c0, .slice a n c] w fun x w' => ∃ v, x = .returned v ∧ Fr w' w.heap.size v (S ++ putV L) ∧ Below w.heap.size w w' := by
  have H := Lib.hid h
  have HL := Lib.hid h.hlen
  have HR := Lib.hid hr
  have hSl := hr.hlen
  have HB := Lib.hid (fun k => codeS_all (L.take k) (fun s hs => ⟨h.hfit s (List.mem_of_mem_take hs), hnm s (List.mem_of_mem_take hs)⟩))
  have HNM := Lib.hid hnm
  have he9 := P.enc_len n (by omega)
  obtain ⟨T, hT⟩ : ∃ T, S ++ enc n = T := ⟨_, rfl⟩
  have hTl : T.length ≤ 2000009 := by rw [← hT, List.length_append]; omega
  have hput : S ++ putV L = T ++ (L.take n).flatMap codeS := by
    rw [← hT, List.take_of_length_le (by rw [h.hlen]; exact Nat.le_refl _)]; unfold putV; rw [h.hlen]; simp
  rw [hput]
  have HT := Lib.hid hT
  have HTL := Lib.hid hTl
  clear h hr hSl hnm hT hTl hput he9
  go_enter Try.func33, Try.ntmps33
  go_wp2_with (first
    | (go_at_call 88; (with_reducible refine (rnum a0 m0 c0 (n : Int) S w HR.out (by omega) (by omega)).mono ?_); rw [Int.toNat_natCast, HT.out]; rintro x w1 ⟨v, rfl, hf, hb⟩; have F1 := Lib.hid hf; have B1 := Lib.hid hb; clear hf hb))
  obtain ⟨tl, htl⟩ : ∃ q, T.length = q := ⟨_, rfl⟩
  obtain ⟨z1, z2, hv, -⟩ := F1.out.form' tl htl
  subst hv
  clear htl
  go_loopw [0, 5] (fun v i wr => ∃ (k : Nat) (x : Option Addr) (l c : Nat), v = .slice x l c ∧ i = .int .i64 (k : Int) ∧ k ≤ n ∧ Hid (Fr wr w.heap.size (.slice x l c) (T ++ (L.take k).flatMap codeS)) ∧ Hid (Below w.heap.size w wr)) (fun _ i _ => n - (intOf i).toNat)
  case atStart => exact ⟨0, _, _, _, rfl, rfl, Nat.zero_le _, Lib.hid (by simpa using F1.out), B1⟩
  case round =>
    obtain ⟨k, x, l, cc, rfl, rfl, hk, HF, B⟩ := hrel
    by_cases hlt : k < n
    · obtain ⟨b, o, s, rfl, hx, hcell, hfs⟩ := H.out.at spOk B.out k hlt
      obtain ⟨xn, xr, xw⟩ := s
      have hstep := codeS_step L k _ hx
      have hmem : (⟨xn, xr, xw⟩ : Sp) ∈ L := by
        obtain ⟨h1, h2⟩ := List.getElem?_eq_some_iff.1 hx
        rw [← h2]; exact List.getElem_mem h1
      have hns := HNM.out _ hmem
      have hbl := HB.out k
      have hlk : (L.take k).length ≤ 100 := by rw [List.length_take]; omega
      have hcur : (T ++ (L.take k).flatMap codeS).length ≤ 250000000 := by
        rw [List.length_append]; have := HTL.out; have : (L.take k).length * 2000027 ≤ 100 * 2000027 := Nat.mul_le_mul_right _ hlk; omega
      obtain ⟨U, hU⟩ : ∃ U, T ++ (L.take k).flatMap codeS = U := ⟨_, rfl⟩
      rw [hU] at HF hcur
      have hst : T ++ (L.take (k + 1)).flatMap codeS = U ++ (enc xn.size ++ xn.data.toList) ++ enc xr.toNat ++ enc xw.toNat := by
        rw [hstep, ← hU]; simp [codeS]
      have HST := Lib.hid hst
      obtain ⟨u, hu⟩ : ∃ q, U.length = q := ⟨_, rfl⟩
      obtain ⟨x', c', hv, hrd⟩ := HF.out.form' u hu
      have hxl : l = u ∧ x = x' ∧ cc = c' := by injection hv with e1 e2 e3; exact ⟨e2, e1, e3⟩
      obtain ⟨rfl, rfl, rfl⟩ := hxl
      rw [hu] at hcur
      obtain ⟨q5, hq5⟩ : ∃ q, (U ++ (enc xn.size ++ xn.data.toList)).length = q := ⟨_, rfl⟩
      obtain ⟨q6, hq6⟩ : ∃ q, (U ++ (enc xn.size ++ xn.data.toList) ++ enc xr.toNat).length = q := ⟨_, rfl⟩
      obtain ⟨q7, hq7⟩ : ∃ q, (T ++ (L.take (k + 1)).flatMap codeS).length = q := ⟨_, rfl⟩
      have RU := Lib.hid hrd
      have HCU := Lib.hid hcur
      have e0 := hcell 0 _ rfl
      have e1 := hcell 1 _ rfl
      have e2 := hcell 2 _ rfl
      rw [show o + k * spE.k + 0 = o + k * 3 from rfl] at e0
      rw [show o + k * spE.k + 1 = o + k * 3 + 1 from rfl] at e1
      rw [show o + k * spE.k + 2 = o + k * 3 + 2 from rfl] at e2
      have E0 := Lib.hid e0
      have E1 := Lib.hid e1
      have E2 := Lib.hid e2
      have hxr := hfs.2.1
      have hxw := hfs.2.2
      have hxr2 := hxr.2
      have hxw2 := hxw.2
      dsimp only at hns hxr2 hxw2
      have he1 := P.enc_len xn.size (by omega)
      have he2 := P.enc_len xr.toNat (by omega)
      have HE1 := Lib.hid he1
      have HE2 := Lib.hid he2
      have HNS : Hid (xn.data.toList.length ≤ 2000000) := Lib.hid hns
      have g1 : (0 : Int) ≤ (k : Int) := by omega
      have g2 : (k : Int) < (n : Int) := by omega
      have hb5 : q5 ≤ 260000000 := by rw [← hq5]; simp only [List.length_append]; have : xn.data.toList.length ≤ 2000000 := hns; omega
      have hb6 : q6 ≤ 260000000 := by rw [← hq6]; simp only [List.length_append]; have : xn.data.toList.length ≤ 2000000 := hns; omega
      have HQ5 := Lib.hid hq5
      have HQ6 := Lib.hid hq6
      have HQ7 := Lib.hid hq7
      clear hstep hmem hbl hlk hU hst hv hrd hcell hfs hxr hxw he1 he2 e0 e1 e2 hx hu hq5 hq6 hq7 HF HE1 HE2 HNS HCU
      go_wp2_with fail
      refine region_h (fun v => Below wr.heap.size wr v) (by kernel_rfl) (by kernel_rfl) (Below.refl _ _).drew ?_
      obtain ⟨wd, hwd⟩ : ∃ wd, wr.drew = wd := ⟨_, rfl⟩
      have D0 : Hid (Below wr.heap.size wr wd) := Lib.hid (by rw [← hwd]; exact (Below.refl _ _).drew)
      rw [hwd]
      clear hwd
      (refine h_read 0 rfl (by kernel_rfl) (by kernel_rfl) (h_free rfl) ?_ ?_ ?_; rotate_left; (focus (intro v hv; go_simp; rfl)); go_simp)
      (refine h_read 1 rfl (by kernel_rfl) (by kernel_rfl) (h_free rfl) ?_ ?_ ?_; rotate_left; (focus (intro v hv; go_simp; rfl)); go_simp)
      (refine h_read 2 rfl (by kernel_rfl) (by kernel_rfl) (h_free rfl) ?_ ?_ ?_; rotate_left; (focus (intro v hv; go_simp; rfl)); go_simp)
      (refine h_read 3 rfl (by kernel_rfl) (by kernel_rfl) (h_free rfl) ?_ ?_ ?_; rotate_left; (focus (intro v hv; go_simp; rfl)); go_simp)
      (refine h_read 4 rfl (by kernel_rfl) (by kernel_rfl) (h_free rfl) ?_ ?_ ?_; rotate_left; (focus (intro v hv; go_simp; rfl)); go_simp)
      (refine h_read 5 rfl (by kernel_rfl) (by kernel_rfl) (h_free rfl) ?_ ?_ ?_; rotate_left; (focus (intro v hv; have q0 := (hv.cell (p := ⟨b, o + k * 3, none⟩) (World.block_lt_of_cell? wr _ E0.out)).trans E0.out; have q1 := (hv.cell (p := ⟨b, o + k * 3 + 1, none⟩) (World.block_lt_of_cell? wr _ E1.out)).trans E1.out; have q2 := (hv.cell (p := ⟨b, o + k * 3 + 2, none⟩) (World.block_lt_of_cell? wr _ E2.out)).trans E2.out; go_simp; rfl)); go_simp)
      (refine h_read 7 rfl (by kernel_rfl) (by kernel_rfl) (h_free rfl) ?_ ?_ ?_; rotate_left; (focus (intro v hv; go_simp; rfl)); go_simp)
      (refine h_read 8 rfl (by kernel_rfl) (by kernel_rfl) (h_free rfl) ?_ ?_ ?_; rotate_left; (focus (intro v hv; go_simp; rfl)); go_simp)
      (refine h_read 9 rfl (by kernel_rfl) (by kernel_rfl) (h_free rfl) ?_ ?_ ?_; rotate_left; (focus (intro v hv; go_simp; rfl)); go_simp)
      (refine h_read 10 rfl (by kernel_rfl) (by kernel_rfl) (h_free rfl) ?_ ?_ ?_; rotate_left; (focus (intro v hv; go_simp; rfl)); go_simp)
      (refine h_read 11 rfl (by kernel_rfl) (by kernel_rfl) (h_free rfl) ?_ ?_ ?_; rotate_left; (focus (intro v hv; have q0 := (hv.cell (p := ⟨b, o + k * 3, none⟩) (World.block_lt_of_cell? wr _ E0.out)).trans E0.out; have q1 := (hv.cell (p := ⟨b, o + k * 3 + 1, none⟩) (World.block_lt_of_cell? wr _ E1.out)).trans E1.out; have q2 := (hv.cell (p := ⟨b, o + k * 3 + 2, none⟩) (World.block_lt_of_cell? wr _ E2.out)).trans E2.out; go_simp; rfl)); go_simp)
      (refine h_read 13 rfl (by kernel_rfl) (by kernel_rfl) (h_free rfl) ?_ ?_ ?_; rotate_left; (focus (intro v hv; go_simp; rfl)); go_simp)
      (refine h_read 14 rfl (by kernel_rfl) (by kernel_rfl) (h_free rfl) ?_ ?_ ?_; rotate_left; (focus (intro v hv; go_simp; rfl)); go_simp)
      (refine h_read 15 rfl (by kernel_rfl) (by kernel_rfl) (h_free rfl) ?_ ?_ ?_; rotate_left; (focus (intro v hv; go_simp; rfl)); go_simp)
      (refine h_read 16 rfl (by kernel_rfl) (by kernel_rfl) (h_free rfl) ?_ ?_ ?_; rotate_left; (focus (intro v hv; go_simp; rfl)); go_simp)
      (refine h_read 17 rfl (by kernel_rfl) (by kernel_rfl) (h_free rfl) ?_ ?_ ?_; rotate_left; (focus (intro v hv; have q0 := (hv.cell (p := ⟨b, o + k * 3, none⟩) (World.block_lt_of_cell? wr _ E0.out)).trans E0.out; have q1 := (hv.cell (p := ⟨b, o + k * 3 + 1, none⟩) (World.block_lt_of_cell? wr _ E1.out)).trans E1.out; have q2 := (hv.cell (p := ⟨b, o + k * 3 + 2, none⟩) (World.block_lt_of_cell? wr _ E2.out)).trans E2.out; go_simp; rfl)); go_simp)
      (refine h_call 6 rfl (by kernel_rfl) (h_free rfl) 89 ?_ ?_ ?_; rotate_left; (focus (go_simp; rfl)))
      refine (rtext x l cc xn U wd (RU.out.mono D0.out) (by omega) (by omega)).mono ?_
      rintro z w5 ⟨v5, rfl, hf5, hb5⟩
      obtain ⟨a5, c5, hv5, hr5⟩ := hf5.form' q5 HQ5.out
      subst hv5
      have R5 := Lib.hid hr5
      have J5 := Lib.hid (D0.out.trans (hb5.mono D0.out.size))
      clear hf5 hb5 hr5
      refine ⟨_, rfl, J5.out, ?_⟩
      go_simp
      (refine h_call 12 rfl (by kernel_rfl) (h_free rfl) 88 ?_ ?_ ?_; rotate_left; (focus (go_simp; rfl)))
      refine (rnum a5 q5 c5 xr _ w5 R5.out (by omega) (by omega)).mono ?_
      rintro z w6 ⟨v6, rfl, hf6, hb6⟩
      obtain ⟨a6, c6, hv6, hr6⟩ := hf6.form' q6 HQ6.out
      subst hv6
      have R6 := Lib.hid hr6
      have J6 := Lib.hid (J5.out.trans (hb6.mono J5.out.size))
      clear hf6 hb6 hr6
      refine ⟨_, rfl, J6.out, ?_⟩
      go_simp
      (refine h_call 18 rfl (by kernel_rfl) (h_free rfl) 88 ?_ ?_ ?_; rotate_left; (focus (go_simp; rfl)))
      refine (rnum a6 q6 c6 xw _ w6 R6.out (by omega) (by omega)).mono ?_
      rw [← HST.out]
      rintro z w7 ⟨v7, rfl, hf7, hb7⟩
      obtain ⟨a7, c7, hv7, -⟩ := hf7.form' q7 HQ7.out
      subst hv7
      have F7 := Lib.hid (hf7.base (Nat.le_trans B.out.size J6.out.size))
      have J7 := Lib.hid (J6.out.trans (hb7.mono J6.out.size))
      clear hf7 hb7
      refine ⟨_, rfl, J7.out, ?_⟩
      go_simp
      (refine h_read 19 rfl (by kernel_rfl) (by kernel_rfl) (h_free rfl) ?_ ?_ ?_; rotate_left; (focus (intro v hv; go_simp; rfl)); go_simp)
      refine h_done (by kernel_rfl) ?_
      go_wp2_with fail
      go_roundw
      case rel => exact ⟨k + 1, a7, q7, c7, rfl, vint (by omega), by omega, F7, Lib.hid (B.out.trans (J7.out.mono B.out.size))⟩
      case measure => simp [intOf]; omega
    · obtain rfl : n = k := by omega
      go_wp2_with fail
      go_ret
      exact ⟨_, rfl, HF.out, B.out⟩
end Go.Proofs.Ytiopcojkdglapaa.W
