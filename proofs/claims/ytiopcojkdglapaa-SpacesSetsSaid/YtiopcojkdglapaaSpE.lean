/- LAYER 18 (spaces): slices.Clone and slices.Equal; the law SpacesSets out of what the program's calls promise. -/
import Derived.Test.YtiopcojkdglapaaSpS
set_option linter.unusedSimpArgs false
set_option linter.unusedVariables false

namespace Go.Proofs.Ytiopcojkdglapaa.W
open Go Go.ChangeShapes Go.WideShapes Go.ChangeAt Go.RowKit

set_option maxRecDepth 100000 in
set_option maxHeartbeats 16000000 in
theorem spclone (a : Option Addr) (n c : Nat) (L : List Sp) (w : World) (h : Ls spE w a n c L) (hn : n ≤ 1000) :
    Calls Try.prog 16 #[.slice a n c] w fun x w' => ∃ a' c', x = .returned (.slice a' n c') ∧ Ls spE w' a' n c' L ∧ Below w.heap.size w w' := by
  have H := Lib.hid h
  have hnil := fun (w : World) (a : Option Addr) (n c : Nat) => Lib.run_eql_slice_nil (P := Try.prog) w 22 24 a n c 0 0 Try.underlying22
  rcases a with _ | ad
  · have h0 := h.hnil rfl
    have h1 := h.hle
    have h2 := h.hlen
    obtain rfl : n = 0 := by omega
    have : L = [] := List.eq_nil_of_length_eq_zero h2
    subst this h0
    clear h h1 h2
    go_enter Try.func16, Try.ntmps16
    go_wp2_with fail
    go_ret
    exact ⟨none, 0, rfl, Ls.nil _, Below.refl _ _⟩
  · have HL := Lib.hid h.hlen
    have HFIT := Lib.hid (show ∀ x ∈ L, x.fit from h.hfit)
    clear h
    go_enter Try.func16, Try.ntmps16
    go_wp2_with (at_builtin; refine append_ls spOk rfl _ _ rfl w.heap.size _ [] rfl (LsO.empty w _ (Nat.le_refl _)) (some ad) n c L rfl (H.out.mono spOk ((Below.refl _ _).alloc (Nat.le_refl _) _)) (by simp; omega) (by simp) ?_; intro v2 w2 hN hb2 _ _; have N2 := Lib.hid (show LsO spE w2 w.heap.size v2 L from hN); have B2 := Lib.hid (((Below.refl _ _).alloc (Nat.le_refl _) _).trans hb2); clear hN hb2)
    obtain ⟨a2, c2, hv, hls, -⟩ := N2.out.ls spOk HFIT.out
    subst hv
    rw [HL.out] at hls ⊢
    go_ret
    exact ⟨a2, c2, rfl, hls, B2.out⟩
set_option maxRecDepth 100000 in
set_option maxHeartbeats 16000000 in
theorem spequal (a a' : Option Addr) (n c c' : Nat) (L : List Sp) (w : World) (h1 : Ls spE w a n c L) (h2 : Ls spE w a' n c' L) :
    Calls Try.prog 24 #[.slice a n c, .slice a' n c'] w fun x w' => x = .returned (.bool true) ∧ Below w.heap.size w w' := by
  have H1 := Lib.hid h1
  have H2 := Lib.hid h2
  have hm := h1.hmax
  have hle := h1.hle
  have SZ := Lib.hid sp_size
  clear h1 h2
  go_enter Try.func24, Try.ntmps24
  go_wp2_with fail
  go_loopw [13] (fun i wr => ∃ k : Nat, i = .int .i64 (k : Int) ∧ k ≤ n ∧ Hid (Below w.heap.size w wr)) (fun i _ => n - (intOf i).toNat)
  case atStart => exact ⟨0, rfl, Nat.zero_le _, Lib.hid (Below.refl _ _)⟩
  case round =>
    obtain ⟨k, rfl, hk, B⟩ := hrel
    by_cases hlt : k < n
    · obtain ⟨b, o, x, rfl, hx1, hc1, hf1⟩ := H1.out.at spOk B.out k hlt
      obtain ⟨b', o', y, rfl, hx2, hc2, hf2⟩ := H2.out.at spOk B.out k hlt
      obtain rfl : x = y := by rw [hx1] at hx2; exact Option.some.inj hx2
      have X1 := Lib.hid hc1
      have X2 := Lib.hid hc2
      have KE := Lib.hid (fun w => eqSp x x hf1 hf2 w)
      rw [show x.eqb x = true from (Sp.eqb_iff x x).2 rfl] at KE
      have g1 : (0 : Int) ≤ (k : Int) := by omega
      have g2 : (k : Int) < (n : Int) := by omega
      clear hc1 hc2 hf1 hf2 hx1 hx2
      obtain ⟨xn, xr, xw⟩ := x
      go_wp2_with fail
      refine region_h (fun v => Below wr.heap.size wr v) (by kernel_rfl) (by kernel_rfl) (Below.refl _ _).drew ?_
      obtain ⟨wd, hwd⟩ : ∃ wd, wr.drew = wd := ⟨_, rfl⟩
      have D0 : Hid (Below wr.heap.size wr wd) := Lib.hid (by rw [← hwd]; exact (Below.refl _ _).drew)
      rw [hwd]
      clear hwd
      (refine h_read 0 rfl (by kernel_rfl) (by kernel_rfl) (h_free rfl) ?_ ?_ ?_; rotate_left; (focus (intro v hv; go_simp; rfl)); go_simp)
      (refine h_read 1 rfl (by kernel_rfl) (by kernel_rfl) (h_free rfl) ?_ ?_ ?_; rotate_left; (focus (intro v hv; go_simp; rfl)); go_simp)
      (refine h_read 2 rfl (by kernel_rfl) (by kernel_rfl) (h_free rfl) ?_ ?_ ?_; rotate_left; (focus (intro v hv; go_simp; rfl)); go_simp)
      (refine h_read 3 rfl (by kernel_rfl) (by kernel_rfl) (h_free rfl) ?_ ?_ ?_; rotate_left; (focus (intro v hv; refine run_cells 24 (.tmp 18) ?_ b (o + k * 3) ?_ [.string xn, .int .i64 xr, .int .i64 xw] _ (fun j' u hj => by rw [hv.cell (p := ⟨b, o + k * 3 + j', none⟩) (World.block_lt_of_cell? wr _ (X1.out j' u hj))]; exact X1.out j' u hj) Try.underlying24 rfl sp_size; (focus rfl); go_simp)); go_simp)
      (refine h_read 4 rfl (by kernel_rfl) (by kernel_rfl) (h_free rfl) ?_ ?_ ?_; rotate_left; (focus (intro v hv; go_simp; rfl)); go_simp)
      (refine h_read 5 rfl (by kernel_rfl) (by kernel_rfl) (h_free rfl) ?_ ?_ ?_; rotate_left; (focus (intro v hv; go_simp; rfl)); go_simp)
      (refine h_read 6 rfl (by kernel_rfl) (by kernel_rfl) (h_free rfl) ?_ ?_ ?_; rotate_left; (focus (intro v hv; go_simp; rfl)); go_simp)
      (refine h_read 7 rfl (by kernel_rfl) (by kernel_rfl) (h_free rfl) ?_ ?_ ?_; rotate_left; (focus (intro v hv; refine run_cells 24 (.tmp 22) ?_ b' (o' + k * 3) ?_ [.string xn, .int .i64 xr, .int .i64 xw] _ (fun j' u hj => by rw [hv.cell (p := ⟨b', o' + k * 3 + j', none⟩) (World.block_lt_of_cell? wr _ (X2.out j' u hj))]; exact X2.out j' u hj) Try.underlying24 rfl sp_size; (focus rfl); go_simp)); go_simp)
      (refine h_read 8 rfl (by kernel_rfl) (by kernel_rfl) (h_free rfl) (.bool false) ?_ ?_; (focus (intro v hv; first | (go_simp; done) | (go_simp; simp))); go_simp)
      refine h_done (by kernel_rfl) ?_
      go_wp2_with fail
      go_roundw
      case rel => exact ⟨k + 1, vint (by omega), by omega, Lib.hid (B.out.trans (D0.out.mono B.out.size))⟩
      case measure => simp [intOf]; omega
    · obtain rfl : n = k := by omega
      go_wp2_with fail
      go_ret
      exact ⟨rfl, B.out⟩
theorem sub_fit {s : Sp} (hs : s.fit) : ∀ (L M : List Sp), (∀ x ∈ L, x.fit) → subV L s = some M → ∀ x ∈ M, x.fit
  | [], _, _, h => by simp [subV] at h
  | y :: L, M, hL, h => by
    simp only [subV] at h
    split at h
    · simp only [Option.some.injEq] at h
      subst h
      intro x hx
      rcases List.mem_cons.1 hx with rfl | hx
      · exact hs
      · exact hL x (by simp [hx])
    · cases hq : subV L s with
      | none => rw [hq] at h; simp at h
      | some M' =>
        rw [hq] at h
        simp only [Option.map_some, Option.some.injEq] at h
        subst h
        intro x hx
        rcases List.mem_cons.1 hx with rfl | hx
        · exact hL x (by simp)
        · exact sub_fit hs L M' (fun z hz => hL z (by simp [hz])) hq x hx
theorem set_fit (L : List Sp) (s : Sp) (hL : ∀ x ∈ L, x.fit) (hs : s.fit) : ∀ x ∈ (setV L s).1, x.fit := by
  unfold setV
  split
  · exact hL
  · split
    · rename_i M hM
      exact sub_fit hs L M hL hM
    · split
      · exact hL
      · intro x hx
        rcases List.mem_append.1 hx with hx | hx
        · rcases List.mem_append.1 hx with hx | hx
          · exact hL x (List.mem_of_mem_take hx)
          · rw [List.mem_singleton] at hx; rw [hx]; exact hs
        · exact hL x (List.mem_of_mem_drop hx)
set_option maxRecDepth 100000 in
set_option maxHeartbeats 16000000 in
theorem sets_of (hS : SpSetP 17) (hM : SpMayP 25) (hC : SpCheckP 22) (hF : SpFindP 19)
    (a : Option Addr) (n c : Nat) (L : List Sp) (s : Sp) (nm : ByteArray) (w : World) (h : Ls spE w a n c L) (hs : s.fit) :
    Calls Try.prog 3 #[.slice a n c, .agg s.cells.toArray, .string nm] w fun x w' => x = .returned (.bool true) ∧ Below w.heap.size w w' := by
  have HA := Lib.hid (awake18 hS hM)
  have HW := Lib.hid (sp_few a n c)
  obtain ⟨sn, sr, sw⟩ := s
  by_cases hn : n ≤ 30
  · have HW1 := Lib.hid (fun w => sp_few a n c w)
    simp only [decide_eq_true hn] at HW1
    have H := Lib.hid h
    have HL := Lib.hid h.hlen
    have HCL := Lib.hid (fun w' (hb : Below w.heap.size w w') => spclone a n c L w' (h.mono spOk hb) (by omega))
    have HS1 := Lib.hid (fun w' (hb : Below w.heap.size w w') => hS a n c L ⟨sn, sr, sw⟩ w' (h.mono spOk hb) hs hn)
    have HS2 := Lib.hid (fun w' (hb : Below w.heap.size w w') => zset a n c L ⟨sn, sr, sw⟩ w' (h.mono spOk hb) hs hn)
    have HF1 := Lib.hid (fun w' (hb : Below w.heap.size w w') => hF a n c L nm w' (h.mono spOk hb))
    have HF2 := Lib.hid (fun w' (hb : Below w.heap.size w w') => zfind a n c L nm w' (h.mono spOk hb))
    have HC1 := Lib.hid (fun w' (hb : Below w.heap.size w w') => hC a n c L w' (h.mono spOk hb))
    have HC2 := Lib.hid (fun w' (hb : Below w.heap.size w w') => zcheck a n c L w' (h.mono spOk hb))
    have HE := Lib.hid (fun w' (hb : Below w.heap.size w w') a' c' (l2 : Ls spE w' a' n c' L) => spequal a a' n c c' L w' (h.mono spOk hb) l2)
    obtain ⟨N, en, hN⟩ : ∃ N en, setV L ⟨sn, sr, sw⟩ = (N, en) := ⟨_, _, rfl⟩
    simp only [hN] at HS1 HS2
    have hfx0 : ∀ x, x ∈ N → x.fit := fun x hx => set_fit L ⟨sn, sr, sw⟩ h.hfit hs x (by rw [hN]; exact hx)
    have HNF := Lib.hid hfx0
    have HSS := Lib.hid (fun a1 n1 c1 a2 n2 c2 w' (l1 : Ls spE w' a1 n1 c1 N) (l2 : Ls spE w' a2 n2 c2 N) => zsame a1 a2 n1 c1 n2 c2 N N w' l1 l2 true (by simp))
    obtain ⟨⟨⟨xn, xr, xw⟩, fx⟩, hfx⟩ : ∃ q, findV L nm = q := ⟨_, rfl⟩
    simp only [hfx] at HF1 HF2
    obtain ⟨ck, hck⟩ : ∃ q, checkV L = q := ⟨_, rfl⟩
    simp only [hck] at HC1 HC2
    have SZ := Lib.hid sp_size
    have MZ := Lib.hid sp_zero
    have HX := Lib.hid (show (Try.prog.info? 24).map (·.size) = some [Value.string sn, .int .i64 sr, .int .i64 sw].length from sp_size)
    clear hS hM hC hF h hN hfx hck hs hfx0 HW
    go_enter Try.func3, Try.ntmps3
    go_wp2_with (first
      | (with_reducible refine box_row (o := ⟨some 4, _, _, _, _, _⟩) rfl _ _ rfl [.string sn, .int .i64 sr, .int .i64 sw] rfl ?_; intro w1 hr1 hb1 hz1; have R1 := Lib.hid hr1; have B1 := Lib.hid hb1; clear hr1 hb1 hz1)
      | (go_at_call 14; (with_reducible refine (HW1.out w1).mono ?_); rintro x w' ⟨rfl, rfl⟩)
      | (go_at_call 16; (with_reducible refine (HCL.out w1 B1.out).mono ?_); rintro x w2 ⟨a2, c2, rfl, hl, hb⟩; have Q2 := Lib.hid hl; have R2 := Lib.hid (R1.out.below hb R1.out.lt); have B2 := Lib.hid (B1.out.trans (hb.mono B1.out.size)); clear hl hb)
      | ((with_reducible refine load_row (o := ⟨some 24, _, _, _, _, _⟩) rfl _ _ rfl w.heap.size ?_ _ [.string sn, .int .i64 sr, .int .i64 sw] _ R2.out Try.underlying24 rfl ?_ ?_); (focus go_simp); (focus (exact HX.out)))
      | (go_at_call 17; (with_reducible refine (HS1.out w2 B2.out).mono ?_); rintro x w3 ⟨a3, n3, c3, rfl, hl, hb⟩; have V3 := Lib.hid hl; have Q3 := Lib.hid (Q2.out.mono spOk hb); have R3 := Lib.hid (R2.out.below hb R2.out.lt); have B3 := Lib.hid (B2.out.trans (hb.mono B2.out.size)); clear hl hb)
      | ((with_reducible refine load_row (o := ⟨some 30, _, _, _, _, _⟩) rfl _ _ rfl w.heap.size ?_ _ [.string sn, .int .i64 sr, .int .i64 sw] _ R3.out Try.underlying24 rfl ?_ ?_); (focus go_simp); (focus (exact HX.out)))
      | (go_at_call 18; (with_reducible refine (HS2.out w3 B3.out).mono ?_); rintro x w4 ⟨v4, rfl, hl, hb⟩; obtain ⟨a4, c4, hv4, hls4, -⟩ := LsO.ls spOk hl HNF.out; subst hv4; have U4 := Lib.hid hls4; have V4 := Lib.hid (V3.out.mono spOk hb); have Q4 := Lib.hid (Q3.out.mono spOk hb); have B4 := Lib.hid (B3.out.trans (hb.mono B3.out.size)); clear hl hb hls4)
      | (go_at_call 19; (with_reducible refine (HF1.out w4 B4.out).mono ?_); rintro x w5 ⟨rfl, hb⟩; have Q5 := Lib.hid (Q4.out.mono spOk hb); have V5 := Lib.hid (V4.out.mono spOk hb); have U5 := Lib.hid (U4.out.mono spOk hb); have B5 := Lib.hid (B4.out.trans (hb.mono B4.out.size)); clear hb)
      | ((with_reducible refine alloc_row (o := ⟨some 12, _, _, _, _, _⟩) rfl _ rfl _ MZ.out ?_); intro w6 hr hb hz; have A6 := Lib.hid hr; have Q6 := Lib.hid (Q5.out.mono spOk hb); have V6 := Lib.hid (V5.out.mono spOk hb); have U6 := Lib.hid (U5.out.mono spOk hb); have BB6 := Lib.hid hb; have B6 := Lib.hid (B5.out.trans (hb.mono B5.out.size)); clear hr hb hz)
      | ((with_reducible refine store_row (o := ⟨none, _, _, _, _, _⟩) rfl _ (.tmp 12) _ rfl w5.heap.size [.string xn, .int .i64 xr, .int .i64 xw] ?_ ?_ 24 _ A6.out ?_ ?_ ?_ ?_); (focus go_simp); (focus (first | (go_simp; done) | (go_simp; rfl))); (focus (exact SZ.out)); (focus rfl); (focus (exact sp_one ⟨_, _, _⟩)); intro w7 hr hu; have A7 := Lib.hid hr; have hb := BB6.out.trans (hu.below (Nat.le_refl _)); have Q7 := Lib.hid (Q5.out.mono spOk hb); have V7 := Lib.hid (V5.out.mono spOk hb); have U7 := Lib.hid (U5.out.mono spOk hb); have B7 := Lib.hid (B6.out.trans (hu.below B5.out.size)); clear hr hu hb)
      | (go_at_call 20; (with_reducible refine (HF2.out w7 B7.out).mono ?_); rintro x w8 ⟨rfl, hb⟩; have A8 := Lib.hid (A7.out.below hb A7.out.lt); have AL8 := Lib.hid A8.out.lt; have Q8 := Lib.hid (Q7.out.mono spOk hb); have V8 := Lib.hid (V7.out.mono spOk hb); have U8 := Lib.hid (U7.out.mono spOk hb); have B8 := Lib.hid (B7.out.trans (hb.mono B7.out.size)); clear hb)
      | ((with_reducible refine alloc_row (o := ⟨some 14, _, _, _, _, _⟩) rfl _ rfl _ MZ.out ?_); intro w9 hr hb hz; have C9 := Lib.hid hr; have A9 := Lib.hid (A8.out.below hb A8.out.lt); have BB9 := Lib.hid hb; have B9 := Lib.hid (B8.out.trans (hb.mono B8.out.size)); clear hr hb hz)
      | ((with_reducible refine store_row (o := ⟨none, _, _, _, _, _⟩) rfl _ (.tmp 14) _ rfl w8.heap.size [.string xn, .int .i64 xr, .int .i64 xw] ?_ ?_ 24 _ C9.out ?_ ?_ ?_ ?_); (focus go_simp); (focus (first | (go_simp; done) | (go_simp; rfl))); (focus (exact SZ.out)); (focus rfl); (focus (exact sp_one ⟨_, _, _⟩)); intro wa hr hu; have Ca := Lib.hid hr; have Aa := Lib.hid (A9.out.upd hu (by have := AL8.out; omega)); have hb := BB9.out.trans (hu.below (Nat.le_refl _)); have Qa := Lib.hid (Q8.out.mono spOk hb); have Va := Lib.hid (V8.out.mono spOk hb); have Ua := Lib.hid (U8.out.mono spOk hb); have Ba := Lib.hid (B9.out.trans (hu.below B8.out.size)); clear hr hu hb)
      | (go_at_call 21; (with_reducible refine (HSS.out a3 n3 c3 a4 _ c4 wa Va.out Ua.out).mono ?_); rintro x wb ⟨rfl, hb⟩; have Ab := Lib.hid (Aa.out.below hb Aa.out.lt); have Cb := Lib.hid (Ca.out.below hb Ca.out.lt); have Qb := Lib.hid (Qa.out.mono spOk hb); have Bb := Lib.hid (Ba.out.trans (hb.mono Ba.out.size)); clear hb)
      | ((with_reducible refine load_rowg (o := ⟨some 55, _, _, _, _, _⟩) 8 true 54 rfl _ _ rfl w5.heap.size _ [.string xn, .int .i64 xr, .int .i64 xw] _ Ab.out Try.underlying24 rfl ?_ ?_ ?_ ?_ ?_); (focus rfl); (focus go_simp); (focus go_simp); (focus (exact SZ.out)))
      | ((with_reducible refine load_rowg (o := ⟨some 56, _, _, _, _, _⟩) 8 true 54 rfl _ _ rfl w8.heap.size _ [.string xn, .int .i64 xr, .int .i64 xw] _ Cb.out Try.underlying24 rfl ?_ ?_ ?_ ?_ ?_); (focus rfl); (focus go_simp); (focus go_simp); (focus (exact SZ.out)))
      | (go_at_call 22; (with_reducible refine (HC1.out wb Bb.out).mono ?_); rintro x wc ⟨rfl, hb⟩; have Qc := Lib.hid (Qb.out.mono spOk hb); have Bc := Lib.hid (Bb.out.trans (hb.mono Bb.out.size)); clear hb)
      | (go_at_call 23; (with_reducible refine (HC2.out wc Bc.out).mono ?_); rintro x wd ⟨rfl, hb⟩; have Qd := Lib.hid (Qc.out.mono spOk hb); have Bd := Lib.hid (Bc.out.trans (hb.mono Bc.out.size)); clear hb)
      | (go_at_call 24; (with_reducible refine (HE.out wd Bd.out a2 c2 Qd.out).mono ?_); rintro x we ⟨rfl, hb⟩; have Be := Lib.hid (Bd.out.trans (hb.mono Bd.out.size)); clear hb)
      | (go_at_call 15; (with_reducible refine (HA.out we).mono ?_); rintro x wf ⟨rfl, hb⟩; have Bf := Lib.hid (Be.out.trans (hb.mono Be.out.size)); clear hb))
    go_ret
    exact ⟨by first | rfl | exact one (vbool (by simp)), Bf.out⟩
  · have HW1 := Lib.hid (fun w => sp_few a n c w)
    simp only [decide_eq_false hn] at HW1
    clear hS hM hC hF h hs HW
    go_enter Try.func3, Try.ntmps3
    go_wp2_with (first
      | (with_reducible refine box_row (o := ⟨some 4, _, _, _, _, _⟩) rfl _ _ rfl [.string sn, .int .i64 sr, .int .i64 sw] rfl ?_; intro w1 hr1 hb1 hz1; have B1 := Lib.hid hb1; clear hr1 hb1 hz1)
      | (go_at_call 14; (with_reducible refine (HW1.out w1).mono ?_); rintro x w' ⟨rfl, rfl⟩)
      | (go_at_call 15; (with_reducible refine (HA.out w1).mono ?_); rintro x wf ⟨rfl, hb⟩; have Bf := Lib.hid (B1.out.trans (hb.mono B1.out.size)); clear hb))
    go_ret
    exact ⟨rfl, Bf.out⟩
end Go.Proofs.Ytiopcojkdglapaa.W
