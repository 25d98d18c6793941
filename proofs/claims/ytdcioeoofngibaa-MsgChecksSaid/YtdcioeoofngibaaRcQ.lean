/- LAYER 11 (record): PutEntry of both. -/
import Derived.Test.YtdcioeoofngibaaRcN
import Derived.Test.YtdcioeoofngibaaRcS
set_option linter.unusedSimpArgs false
set_option linter.unusedVariables false
namespace Go.Proofs.Ytdcioeoofngibaa.W
open Go Go.ChangeShapes Go.WideShapes Go.ChangeAt Go.RowKit
open Go.Proofs.Ytdcioeoofngibaa.P (enc dec)

/-- an entry's bytes -/
def codeE (e : En) (l : List UInt8) : List UInt8 := [e.ix, e.tm, e.kd].flatMap encZ ++ (enc l.length ++ l)
def putE (S : List UInt8) (e : En) (l : List UInt8) : List UInt8 := if enOk e then S ++ codeE e l else S
theorem enOk_facts {e : En} (h : enOk e = true) : (1 ≤ e.ix ∧ e.ix ≤ 2147483648) ∧ (0 ≤ e.tm ∧ e.tm ≤ 2147483648) ∧ (0 ≤ e.kd ∧ e.kd ≤ 2) ∧ e.n ≤ 4096 := by
  unfold enOk inV at h
  simp at h
  exact h
set_option maxRecDepth 100000 in
set_option maxHeartbeats 4000000 in
theorem rputE (a0 : Option Addr) (m0 c0 : Nat) (S : List UInt8) (e : En) (l : List UInt8) (w : World) (hr : Rd w a0 m0 c0 S) (hm0 : m0 ≤ 190000) (he : Rd w e.a e.n e.c l) :
    Calls Try.prog 80 #[.slice a0 m0 c0, .agg e.cells.toArray] w fun x w' => ∃ v, x = .returned v ∧ Fr w' w.heap.size v (putE S e l) ∧ Below w.heap.size w w' := by
  have HR := Lib.hid hr
  have HE := Lib.hid he
  have HSL := Lib.hid hr.hlen
  have HLL := Lib.hid he.hlen
  obtain ⟨R, hR⟩ : ∃ R, putE S e l = R := ⟨_, rfl⟩
  rw [hR]
  unfold putE at hR
  clear hr he
  rcases hok : enOk e with _ | _
  · rw [hok, if_neg (by decide)] at hR
    subst hR
    have HOK := Lib.hid hok
    clear hok
    obtain ⟨ix, tm, kd, a, n, c⟩ := e
    unfold En.cells
    dsimp only
    go_enter Try.func80, Try.ntmps80
    go_wp2_with (first
      | (with_reducible refine box_row (o := ⟨some 3, _, _, _, _, _⟩) rfl _ _ rfl [.int .i64 ix, .int .i64 tm, .int .i64 kd, .slice a n c] rfl ?_; intro w1 hr1 hb1 hz1; obtain ⟨c0', c1', c2', c3'⟩ := hr1.q4; have T1 := Lib.hid hr1; have B1 := Lib.hid hb1; clear hr1 hb1 hz1)
      | (go_at_call 79; refine (rentry ⟨ix, tm, kd, a, n, c⟩ w1).mono ?_; rw [HOK.out]; rintro x w2 ⟨rfl, hb2⟩; have B2 := Lib.hid (B1.out.trans (hb2.mono B1.out.size)); have T2 := Lib.hid (T1.out.below hb2 T1.out.lt); clear hb2 c0' c1' c2' c3')
      | (go_at_call 83; refine (fclone a0 m0 c0 S w2 (HR.out.mono B2.out) (by omega)).mono ?_; rintro x w3 ⟨v3, rfl, hf3, hb3⟩; have F3 := Lib.hid (hf3.base B2.out.size); have B3 := Lib.hid (B2.out.trans (hb3.mono B2.out.size)); clear hf3 hb3))
    go_ret
    exact ⟨_, rfl, F3.out, B3.out⟩
  · obtain ⟨⟨x1, x2⟩, ⟨x3, x4⟩, ⟨x5, x6⟩, hn⟩ := enOk_facts hok
    rw [hok, if_pos rfl] at hR
    have HOK := Lib.hid hok
    have HF : Hid (∀ z ∈ [e.ix, e.tm, e.kd], z ≤ 9223372036854775807) := Lib.hid (by intro z hz; simp at hz; rcases hz with rfl | rfl | rfl <;> omega)
    have HN := Lib.hid hn
    obtain ⟨D, hD⟩ : ∃ D, S ++ [e.ix, e.tm, e.kd].flatMap encZ = D := ⟨_, rfl⟩
    have hel := encz_len [e.ix, e.tm, e.kd] HF.out
    have hDl : D.length ≤ 190100 := by rw [← hD, List.length_append, HSL.out]; simp only [List.length_cons, List.length_nil] at hel; omega
    have hR2 : R = D ++ (enc l.length ++ l) := by rw [← hR, codeE, ← hD, List.append_assoc]
    have HD := Lib.hid hD
    have HDL := Lib.hid hDl
    have HR2 := Lib.hid hR2
    have HRN := Lib.hid (show R.length = D.length + ((enc l.length).length + l.length) by rw [hR2, List.length_append, List.length_append])
    have HS2 : Hid ((str l).size = l.length) := Lib.hid (by rfl)
    have HSD : Hid ((str l).data.toList = l) := Lib.hid (str_data l)
    clear hR hok x1 x2 x3 x4 x5 x6 hn hel hD hDl hR2
    obtain ⟨ix, tm, kd, a, n, c⟩ := e
    dsimp only at HF HN HD HLL HE
    unfold En.cells
    dsimp only
    go_enter Try.func80, Try.ntmps80
    go_wp2_with (first
      | (with_reducible refine box_row (o := ⟨some 3, _, _, _, _, _⟩) rfl _ _ rfl [.int .i64 ix, .int .i64 tm, .int .i64 kd, .slice a n c] rfl ?_; intro w1 hr1 hb1 hz1; obtain ⟨c0', c1', c2', c3'⟩ := hr1.q4; have T1 := Lib.hid hr1; have B1 := Lib.hid hb1; clear hr1 hb1 hz1)
      | (go_at_call 79; refine (rentry ⟨ix, tm, kd, a, n, c⟩ w1).mono ?_; rw [HOK.out]; rintro x w2 ⟨rfl, hb2⟩; have B2 := Lib.hid (B1.out.trans (hb2.mono B1.out.size)); have T2 := Lib.hid (T1.out.below hb2 T1.out.lt); clear hb2 c0' c1' c2' c3'))
    refine region_h (fun v => Below w2.heap.size w2 v) (by kernel_rfl) (by kernel_rfl) (Below.refl _ _).drew ?_
    obtain ⟨wd, hwd⟩ : ∃ wd, w2.drew = wd := ⟨_, rfl⟩
    have D0 : Hid (Below w2.heap.size w2 wd) := Lib.hid (by rw [← hwd]; exact (Below.refl _ _).drew)
    rw [hwd]
    clear hwd
    (refine h_read 0 rfl (by kernel_rfl) (by kernel_rfl) (h_free rfl) ?_ ?_ ?_; rotate_left; (focus (intro v hv; go_simp; rfl)); go_simp)
    (refine h_read 1 rfl (by kernel_rfl) (by kernel_rfl) (h_free rfl) ?_ ?_ ?_; rotate_left; (focus (intro v hv; go_simp; rfl)); go_simp)
    (refine h_read 2 rfl (by kernel_rfl) (by kernel_rfl) (h_free rfl) ?_ ?_ ?_; rotate_left; (focus (intro v hv; obtain ⟨c0', c1', c2', c3'⟩ := (T2.out.below hv T2.out.lt).q4; have cv := conv_rd (HE.out.mono (B2.out.trans (hv.mono B2.out.size))); go_simp; rfl)); go_simp)
    (refine h_read 3 rfl (by kernel_rfl) (by kernel_rfl) (h_free rfl) ?_ ?_ ?_; rotate_left; (focus (intro v hv; go_simp; rfl)); go_simp)
    (refine h_read 4 rfl (by kernel_rfl) (by kernel_rfl) (h_free rfl) ?_ ?_ ?_; rotate_left; (focus (intro v hv; obtain ⟨c0', c1', c2', c3'⟩ := (T2.out.below hv T2.out.lt).q4; have cv := conv_rd (HE.out.mono (B2.out.trans (hv.mono B2.out.size))); go_simp; rfl)); go_simp)
    (refine h_read 5 rfl (by kernel_rfl) (by kernel_rfl) (h_free rfl) ?_ ?_ ?_; rotate_left; (focus (intro v hv; go_simp; rfl)); go_simp)
    (refine h_read 6 rfl (by kernel_rfl) (by kernel_rfl) (h_free rfl) ?_ ?_ ?_; rotate_left; (focus (intro v hv; obtain ⟨c0', c1', c2', c3'⟩ := (T2.out.below hv T2.out.lt).q4; have cv := conv_rd (HE.out.mono (B2.out.trans (hv.mono B2.out.size))); go_simp; rfl)); go_simp)
    (refine h_read 9 rfl (by kernel_rfl) (by kernel_rfl) (h_free rfl) ?_ ?_ ?_; rotate_left; (focus (intro v hv; go_simp; rfl)); go_simp)
    (refine h_read 10 rfl (by kernel_rfl) (by kernel_rfl) (h_free rfl) ?_ ?_ ?_; rotate_left; (focus (intro v hv; obtain ⟨c0', c1', c2', c3'⟩ := (T2.out.below hv T2.out.lt).q4; have cv := conv_rd (HE.out.mono (B2.out.trans (hv.mono B2.out.size))); go_simp; rfl)); go_simp)
    (refine h_read 11 rfl (by kernel_rfl) (by kernel_rfl) (h_free rfl) ?_ ?_ ?_; rotate_left; (focus (intro v hv; obtain ⟨c0', c1', c2', c3'⟩ := (T2.out.below hv T2.out.lt).q4; have cv := conv_rd (HE.out.mono (B2.out.trans (hv.mono B2.out.size))); go_simp; rfl)); go_simp)
    (refine h_list 7 rfl (by kernel_rfl) ?_; intro K hK)
    go_wp2_with fail
    have D1 : Hid (Below w2.heap.size w2 (wd.alloc (.cells ([ix, tm, kd].map (Value.int .i64)).toArray 3))) := Lib.hid (D0.out.alloc D0.out.size _)
    refine hK _ _ D1.out ?_
    go_simp
    (refine h_call 8 rfl (by kernel_rfl) (h_free rfl) 84 ?_ ?_ ?_; rotate_left; (focus (go_simp; rfl)))
    have key := rnumbers a0 m0 c0 S wd.heap.size [ix, tm, kd] 3 (wd.alloc (.cells ([ix, tm, kd].map (Value.int .i64)).toArray 3)) (HR.out.mono (B2.out.trans (D1.out.mono B2.out.size))) (by omega) rfl (by decide) (by decide) HF.out (by simp) (fun i hi => ints_in wd [ix, tm, kd] 3 rfl i hi)
    rw [HD.out] at key
    refine key.mono ?_
    rintro x w3 ⟨v3, rfl, hf3, hb3⟩
    obtain ⟨a3, c3, hv3, hr3⟩ := hf3.form' D.length rfl
    subst hv3
    have R3 := Lib.hid hr3
    have D3 := Lib.hid (D1.out.trans (hb3.mono D1.out.size))
    clear hf3 hr3 hb3 key
    refine ⟨_, rfl, D3.out, ?_⟩
    go_simp
    (refine h_call 12 rfl (by kernel_rfl) (h_free rfl) 72 ?_ ?_ ?_; rotate_left; (focus (go_simp; rfl)))
    have key := ptext a3 D.length c3 (str l) D w3 R3.out (by rw [HS2.out, HLL.out]; have := HN.out; omega) (by have := HDL.out; omega)
    rw [HS2.out, HSD.out, ← HR2.out, ← HRN.out] at key
    refine key.mono ?_
    rintro x w4 ⟨rfl, hk4, hb4, hz4⟩
    have F4 := Lib.hid (fr_of_blk hk4 (Nat.le_trans B2.out.size D3.out.size) R.length rfl (by rw [HRN.out]; have h9 := P.enc_len l.length (by have := HLL.out; have := HN.out; omega); have := HDL.out; have := HLL.out; have := HN.out; omega))
    have D4 := Lib.hid (D3.out.trans (hb4.mono D3.out.size))
    clear hk4 hb4 hz4 key
    refine ⟨_, rfl, D4.out, ?_⟩
    go_simp
    (refine h_read 13 rfl (by kernel_rfl) (by kernel_rfl) (h_free rfl) ?_ ?_ ?_; rotate_left; (focus (intro v hv; go_simp; rfl)); go_simp)
    refine h_done (by kernel_rfl) ?_
    go_wp2_with fail
    go_ret
    exact ⟨_, rfl, F4.out, B2.out.trans (D4.out.mono B2.out.size)⟩
end Go.Proofs.Ytdcioeoofngibaa.W
