/- LAYER 25 (board): plain: the bytes, and what bytes are read to; Put of both. -/
import Derived.Test.YtkmdbdieloimiaaBdH
import Derived.Test.YtkmdbdieloimiaaPackR5
import Derived.Test.YtkmdbdieloimiaaByt
import Derived.Test.YtkmdbdieloimiaaTail
import Derived.Test.YtkmdbdieloimiaaLnu
set_option linter.unusedSimpArgs false
set_option linter.unusedVariables false
namespace Go.Proofs.Ytkmdbdieloimiaa.W
open Go Go.ChangeShapes Go.WideShapes Go.ChangeAt Go.RowKit
open Go.Proofs.Ytkmdbdieloimiaa.P (enc dec)
open Go.Proofs.Ytkmdbdieloimiaa.S

def codeS (s : Sh) : List UInt8 := codeN [s.ln, s.by']
def codeSs (l : List Sh) : List UInt8 := l.flatMap codeS
def putBd (b : Bd) : List UInt8 := enc b.cap.toNat ++ (enc b.L.length ++ codeSs b.L)
theorem codeS_len (s : Sh) (h : s.fit) : (codeS s).length ≤ 18 := by
  have := codeN_len [s.ln, s.by'] (fun n hn => by
    rcases List.mem_cons.1 hn with rfl | hn
    · exact h.ln
    · rw [List.mem_singleton.1 hn]; exact h.by')
  exact this
theorem codeSs_len : ∀ l : List Sh, (∀ s ∈ l, s.fit) → (codeSs l).length ≤ l.length * 18
  | [], _ => by simp [codeSs]
  | s :: l, h => by
    have h1 := codeS_len s (h s (by simp))
    have h2 := codeSs_len l (fun m hm => h m (by simp [hm]))
    simp only [codeSs, List.flatMap_cons, List.length_append, List.length_cons] at h2 ⊢
    omega
theorem codeSs_step (l : List Sh) (k : Nat) (s : Sh) (h : l[k]? = some s) : codeSs (l.take (k + 1)) = codeSs (l.take k) ++ codeS s := by
  obtain ⟨h1, h2⟩ := List.getElem?_eq_some_iff.1 h
  unfold codeSs
  rw [List.take_succ_eq_append_getElem h1, List.flatMap_append, h2]; simp
-- ---- what is read
def rdSh (l : List UInt8) (e : Int) : Sh × List UInt8 × Int := let a := numR 4 l e; let b := numR 1099511627776 a.2.1 a.2.2; (⟨(a.1 : Int), (b.1 : Int)⟩, b.2)
def rdShs : Nat → List UInt8 → Int → List Sh × List UInt8 × Int
  | 0, l, e => ([], l, e)
  | n + 1, l, e => ((rdShs n l e).1 ++ [(rdSh (rdShs n l e).2.1 (rdShs n l e).2.2).1], (rdSh (rdShs n l e).2.1 (rdShs n l e).2.2).2)
def bdZ : Bd := ⟨0, []⟩
def endBd (b : Bd) (q : List UInt8 × Int) : Bd × List UInt8 × Int := if q.2 = 0 then if b.ok then (b, q) else (bdZ, [], 3) else (bdZ, q)
def readBd (l : List UInt8) (e : Int) : Bd × List UInt8 × Int :=
  let a := numR 1099511627776 l e; let k := numR 4 a.2.1 a.2.2; let h := rdShs k.1 k.2.1 k.2.2
  endBd ⟨(a.1 : Int), h.1⟩ h.2
theorem rdSh_err {l : List UInt8} {e : Int} (h : e ≠ 0) : (rdSh l e).2 = (l, e) := by
  unfold rdSh; dsimp only; rw [numR_err h]; dsimp only; rw [numR_err h]
theorem rdShs_stuck (l : List UInt8) (e : Int) (m : Nat) (h : (rdShs m l e).2.2 ≠ 0) : ∀ k, (rdShs (m + k) l e).2 = (rdShs m l e).2
  | 0 => rfl
  | k + 1 => by
    have ih := rdShs_stuck l e m h k
    rw [show m + (k + 1) = (m + k) + 1 by omega]
    simp only [rdShs]
    rw [ih, rdSh_err h]
theorem rdSh_fit (l : List UInt8) (e : Int) : (rdSh l e).1.fit := ⟨⟨by show (-9223372036854775808 : Int) ≤ ((numR 4 l e).1 : Int); omega, numR_lt _ _ _⟩, ⟨by show (-9223372036854775808 : Int) ≤ ((numR 1099511627776 (numR 4 l e).2.1 (numR 4 l e).2.2).1 : Int); omega, numR_lt _ _ _⟩⟩
theorem rdShs_fit (l : List UInt8) (e : Int) : ∀ n, ∀ s ∈ (rdShs n l e).1, s.fit
  | 0, s, h => by simp [rdShs] at h
  | n + 1, s, h => by
    simp only [rdShs, List.mem_append, List.mem_singleton] at h
    rcases h with h | rfl
    · exact rdShs_fit l e n s h
    · exact rdSh_fit _ _
theorem rdShs_len (l : List UInt8) (e : Int) : ∀ n, (rdShs n l e).1.length = n
  | 0 => rfl
  | n + 1 => by simp [rdShs, rdShs_len l e n]
theorem bd_num_le (most : Int) (hm : 0 ≤ most) (l : List UInt8) (e : Int) : ((numR most l e).1 : Int) ≤ most := by
  by_cases he : e = 0
  · subst he
    by_cases h0 : (numR most l 0).2.2 = 0
    · exact (num_back most l h0).2
    · have : (numR most l 0).1 = 0 := by
        unfold numR at h0 ⊢
        repeat' split
        all_goals first | rfl | (simp_all)
      rw [this]; simpa using hm
  · rw [numR_err he]; simpa using hm
-- ---- Put
theorem fr_upd {w w' : World} {base g : Nat} {v : Value} {l : List UInt8} (h : Fr w base v l) (hu : Upd w w' g) (hg : v.ownBlock ≠ some g) : Fr w' base v l := by
  obtain ⟨h1, h2⟩ := h
  refine ⟨h1, ?_⟩
  rcases h2 with h2 | ⟨b, cap, cur, rfl, hb, hh, r⟩
  · exact .inl h2
  · exact .inr ⟨b, cap, cur, rfl, hb, by rw [hu.block b (fun e => hg (by rw [e]; rfl))]; exact hh, r⟩
theorem fr_ne {w : World} {base : Nat} {v : Value} {l : List UInt8} (h : Fr w base v l) : v.ownBlock ≠ some w.heap.size := fun e => absurd (World.ownsRow.lt h _ e).2 (Nat.lt_irrefl _)
set_option maxRecDepth 100000 in
set_option maxHeartbeats 4000000 in
theorem pshcode (s : Sh) (w : World) (h : s.fit) :
    Calls Try.prog 53 #[.agg s.cells.toArray] w fun z w' => ∃ y m d, z = .returned (.slice y m d) ∧ Rd w' y m d (codeS s) ∧ m ≤ 18 ∧ Below w.heap.size w w' := by
  obtain ⟨xl, xb⟩ := s
  have hl := h.ln
  have hb' := h.by'
  have hc := codeS_len ⟨xl, xb⟩ h
  dsimp only at hl hb'
  have I1 := Lib.hid hl
  have I2 := Lib.hid hb'
  obtain ⟨T, hT⟩ : ∃ T, codeN [xl, xb] = T := ⟨_, rfl⟩
  obtain ⟨q, hq⟩ : ∃ q, T.length = q := ⟨_, rfl⟩
  rw [show codeS ⟨xl, xb⟩ = T from hT] at hc ⊢
  have HT := Lib.hid (show [] ++ codeN [xl, xb] = T by rw [List.nil_append]; exact hT)
  have HQ := Lib.hid hq
  have hqb : q ≤ 18 := by rw [← hq]; exact hc
  clear h hl hb' hc hT hq
  go_enter Try.func53, Try.ntmps53
  go_wp2_with (first
    | ((with_reducible refine box_row (o := ⟨some 1, _, _, _, _, _⟩) rfl _ _ rfl [.int .i64 xl, .int .i64 xb] rfl ?_); intro w1 hr hb hz; obtain ⟨c0, c1⟩ := hr.k2; have B1 := Lib.hid hb; clear hr hb hz)
    | ((with_reducible refine bi2 (o := ⟨some 7, _, _, _, _, _⟩) rfl _ _ rfl xl xb ?_ ?_ I1.out I2.out ?_); (focus (first | (go_simp; done) | (go_simp; rfl))); (focus (first | (go_simp; done) | (go_simp; rfl))); intro w2 hs hb hz; have S2 := Lib.hid hs; have B2 := Lib.hid (B1.out.trans (hb.mono B1.out.size)); clear hs hb hz)
    | (go_at_call 69; (with_reducible refine (lnumbers none 0 0 [] _ 2 2 [xl, xb] w2 (Rd_nil _) (by omega) S2.out (by omega) (by omega) T HT.out q HQ.out).mono ?_); rintro z w3 ⟨y, d, rfl, -, hrd, hb⟩; have R3 := Lib.hid hrd; have B3 := Lib.hid (B2.out.trans (hb.mono B2.out.size)); clear hrd hb))
  go_ret
  exact ⟨_, _, _, rfl, R3.out, hqb, B3.out⟩
set_option maxRecDepth 100000 in
set_option maxHeartbeats 16000000 in
theorem shput (a0 : Option Addr) (m0 c0 : Nat) (S : List UInt8) (a : Option Addr) (n c : Nat) (L : List Sh) (w : World) (hr : Rd w a0 m0 c0 S) (hm0 : m0 ≤ 3000000) (h : Ls shE w a n c L) (hn : n ≤ 100) :
    Calls Try.prog 51 #[.slice a0 m0 c0, .slice a n c, .func (.func 53) #[] #[]] w fun x w' => ∃ v, x = .returned v ∧ Fr w' w.heap.size v (S ++ (enc n ++ codeSs L)) ∧ Below w.heap.size w w' := by
  have H := Lib.hid h
  have HL := Lib.hid h.hlen
  have hmx := h.hmax
  have hle := h.hle
  have HB := Lib.hid (fun k => codeSs_len (L.take k) (fun s hs => h.hfit s (List.mem_of_mem_take hs)))
  have SZ := Lib.hid sh_size
  have EZ := Lib.hid sh_zero
  have he := P.enc_len n (by omega)
  obtain ⟨T, hT⟩ : ∃ T, S ++ enc n = T := ⟨_, rfl⟩
  obtain ⟨q, hq⟩ : ∃ q, m0 + (enc n).length = q := ⟨_, rfl⟩
  have hTq : T.length = q := by rw [← hT, List.length_append, hr.hlen]; exact hq
  have hqb : q ≤ 3000009 := by omega
  have HN := Lib.hid (pnum a0 m0 c0 (n : Int) S w hr (by omega) (by omega))
  rw [Int.toNat_natCast, hT, hq] at HN
  have HTQ := Lib.hid hTq
  rw [show S ++ (enc n ++ codeSs L) = T ++ codeSs L by rw [← hT]; simp]
  clear h hr hT hTq he hq
  go_enter Try.func51, Try.ntmps51
  go_wp2_with (go_at_call 52; (with_reducible refine HN.out.mono ?_); rintro z w1 ⟨rfl, hbk, hb, -⟩; have F1 := Lib.hid (show Fr w1 w.heap.size (.slice (some ⟨w.heap.size, 0, none⟩) q q) T by have := hbk.fr (base := w.heap.size) (Nat.le_refl _) (by rw [HTQ.out]; omega); rw [HTQ.out] at this; exact this); have B1 := Lib.hid hb; clear hbk hb)
  go_loopw [7, 16] (fun v i wr => ∃ (k : Nat) (y : Option Addr) (m d : Nat), v = .slice y m d ∧ i = .int .i64 (k : Int) ∧ k ≤ n ∧ Hid (Fr wr w.heap.size (.slice y m d) (T ++ codeSs (L.take k))) ∧ Hid (Below w.heap.size w wr)) (fun _ i _ => n - (intOf i).toNat)
  case atStart => exact ⟨0, _, _, _, rfl, rfl, Nat.zero_le _, Lib.hid (by simpa [codeSs] using F1.out), B1⟩
  case round =>
    obtain ⟨k, y, m, d, rfl, rfl, hk, F, B⟩ := hrel
    have hbl := HB.out k
    have hlk : (L.take k).length ≤ 100 := by rw [List.length_take]; omega
    have hcur : (T ++ codeSs (L.take k)).length ≤ 4000000 := by
      rw [List.length_append, HTQ.out]; have : (L.take k).length * 18 ≤ 100 * 18 := Nat.mul_le_mul_right _ hlk; omega
    by_cases hlt : k < n
    · obtain ⟨b, o, s, rfl, hx, hcell, hfs⟩ := H.out.at shOk B.out k hlt
      have HCD := Lib.hid (fun w => pshcode s w hfs)
      have HST := Lib.hid (show T ++ codeSs (L.take (k + 1)) = (T ++ codeSs (L.take k)) ++ codeS s by rw [codeSs_step L k s hx]; simp)
      obtain ⟨U, hU⟩ : ∃ U, T ++ codeSs (L.take k) = U := ⟨_, rfl⟩
      rw [hU] at F hcur HST
      have HUB := Lib.hid hcur
      have XC := Lib.hid hcell
      obtain ⟨xl, xb⟩ := s
      have g1 : (0 : Int) ≤ (k : Int) := by omega
      have g2 : (k : Int) < (n : Int) := by omega
      clear hx hfs hU hbl hlk hcur hcell
      go_wp2_with (first
        | ((with_reducible refine load_cells (o := ⟨some 19, _, _, _, _, _⟩) rfl _ _ rfl b (o + k * 2) ?_ [.int .i64 xl, .int .i64 xb] _ XC.out Try.underlying58 rfl ?_ ?_); (focus go_simp); (focus (exact SZ.out)))
        | ((with_reducible refine alloc_row (o := ⟨some 9, _, _, _, _, _⟩) rfl _ rfl _ EZ.out ?_); intro w5 hr hb hz; have E5 := Lib.hid hr; have F5 := Lib.hid (F.out.kept hb); have B5 := Lib.hid (B.out.trans (hb.mono B.out.size)); clear hr hb hz)
        | ((with_reducible refine store_row (o := ⟨none, _, _, _, _, _⟩) rfl _ (.tmp 9) _ rfl wr.heap.size [.int .i64 xl, .int .i64 xb] ?_ ?_ 58 _ E5.out ?_ ?_ ?_ ?_); (focus go_simp); (focus (first | (go_simp; done) | (go_simp; rfl))); (focus (exact SZ.out)); (focus rfl); (focus (exact shOk.one ⟨xl, xb⟩)); intro w6 hr hu; have E6 := Lib.hid hr; have F6 := Lib.hid (fr_upd F5.out hu (fr_ne F.out)); have B6 := Lib.hid (B5.out.trans (hu.below B.out.size)); clear hr hu)
        | ((with_reducible refine load_row (o := ⟨some 22, _, _, _, _, _⟩) rfl _ _ rfl wr.heap.size ?_ _ [.int .i64 xl, .int .i64 xb] _ E6.out Try.underlying58 rfl ?_ ?_); (focus go_simp); (focus (exact SZ.out)))
        | (go_at_call 53; (with_reducible refine (HCD.out _).mono ?_); rintro z w7 ⟨y7, m7, d7, rfl, hrd, hm7, hb⟩; have R7 := Lib.hid hrd; have HM7 := Lib.hid hm7; have F7 := Lib.hid (F6.out.kept hb); have B7 := Lib.hid (B6.out.trans (hb.mono B6.out.size)); clear hrd hb hm7)
        | ((with_reducible refine append_rd (o := ⟨some 24, _, _, _, _, _⟩) rfl _ _ rfl w.heap.size _ U ?_ F7.out y7 m7 d7 _ ?_ R7.out ?_ B7.out.size ?_); (focus (first | (go_simp; done) | (go_simp; rfl))); (focus (first | (go_simp; done) | (go_simp; rfl))); (focus (have := HUB.out; have := HM7.out; omega)); intro v8 w8 hN hb2 _; rw [← HST.out] at hN; obtain ⟨q8, hq8⟩ : ∃ q, (T ++ codeSs (L.take (k + 1))).length = q := ⟨_, rfl⟩; obtain ⟨y8, d8, rfl, -⟩ := hN.form' q8 hq8; have F8 := Lib.hid hN; have B8 := Lib.hid (B7.out.trans hb2); clear hN hb2 hq8))
      go_roundw
      case rel => exact ⟨k + 1, _, _, _, rfl, vint (by omega), by omega, F8, B8⟩
      case measure => simp [intOf]; omega
    · obtain rfl : n = k := by omega
      have ht : L.take n = L := List.take_of_length_le (by rw [HL.out]; exact Nat.le_refl _)
      rw [ht] at F hcur
      clear ht hbl hlk hcur
      go_wp2_with fail
      go_ret
      exact ⟨_, rfl, F.out, B.out⟩
set_option maxRecDepth 100000 in
set_option maxHeartbeats 16000000 in
theorem pbput (a0 : Option Addr) (m0 c0 : Nat) (S : List UInt8) (cp : Int) (a : Option Addr) (n c : Nat) (L : List Sh) (w : World) (hr : Rd w a0 m0 c0 S) (hm0 : m0 ≤ 2000000) (h : Ls shE w a n c L) (hn : n ≤ 100) (ie : SI64 cp) :
    Calls Try.prog 19 #[.slice a0 m0 c0, .agg (bdC cp a n c).toArray] w fun x w' => ∃ v, x = .returned v ∧ Fr w' w.heap.size v (S ++ putBd ⟨cp, L⟩) ∧ Below w.heap.size w w' := by
  have H := Lib.hid h
  have HL := Lib.hid h.hlen
  have hmx := h.hmax
  have hle := h.hle
  have HR := Lib.hid hr
  have ie2 := ie.2
  have HB := Lib.hid (fun k => codeSs_len (L.take k) (fun s hs => h.hfit s (List.mem_of_mem_take hs)))
  have hSl := hr.hlen
  obtain ⟨T1, hT1⟩ : ∃ ZZ, S ++ enc cp.toNat = ZZ := ⟨_, rfl⟩
  obtain ⟨q1, hq1⟩ : ∃ m, T1.length = m := ⟨_, rfl⟩
  have heT1 := P.enc_len cp.toNat (by omega)
  have hbT1 : q1 ≤ 2000000 + 9 := by rw [← hq1, ← hT1]; simp only [List.length_append]; omega
  have Q1 := Lib.hid hq1
  have HN1 := Lib.hid (fun w' (hb : Below w.heap.size w w') => pnumG a0 m0 c0 cp S w' (hr.mono hb) ie2 (by omega) T1 hT1 q1 hq1)
  rw [show S ++ putBd ⟨cp, L⟩ = T1 ++ (enc n ++ codeSs L) by rw [← hT1]; unfold putBd; rw [h.hlen]; simp]
  clear h hr hT1 hq1 heT1 ie hSl
  go_enter Try.func19, Try.ntmps19
  go_wp2_with (first
    | ((with_reducible refine box_row (o := ⟨some 3, _, _, _, _, _⟩) rfl _ _ rfl (bdC cp a n c) rfl ?_); intro w1 hr hb hz; have R1 := Lib.hid hr; have B1 := Lib.hid hb; clear hr hb hz))
  refine region_h (fun v => Below w1.heap.size w1 v) (by kernel_rfl) (by kernel_rfl) (Below.refl _ _).drew ?_
  obtain ⟨wd, hwd⟩ : ∃ wd, w1.drew = wd := ⟨_, rfl⟩
  have Jwd : Hid (Below w1.heap.size w1 wd) := Lib.hid (by rw [← hwd]; exact (Below.refl _ _).drew)
  rw [hwd]
  clear hwd
  (refine h_read 0 rfl (by kernel_rfl) (by kernel_rfl) (h_free rfl) ?_ ?_ ?_; rotate_left; (focus (intro v hv; go_simp; rfl)); go_simp)
  (refine h_read 1 rfl (by kernel_rfl) (by kernel_rfl) (h_free rfl) ?_ ?_ ?_; rotate_left; (focus (intro v hv; go_simp; rfl)); go_simp)
  (refine h_read 2 rfl (by kernel_rfl) (by kernel_rfl) (h_free rfl) ?_ ?_ ?_; rotate_left; (focus (intro v hv; obtain ⟨x0, x1⟩ := (R1.out.below hv R1.out.lt).k2; go_simp; rfl)); go_simp)
  (refine h_read 4 rfl (by kernel_rfl) (by kernel_rfl) (h_free rfl) ?_ ?_ ?_; rotate_left; (focus (intro v hv; go_simp; rfl)); go_simp)
  (refine h_read 5 rfl (by kernel_rfl) (by kernel_rfl) (h_free rfl) ?_ ?_ ?_; rotate_left; (focus (intro v hv; obtain ⟨x0, x1⟩ := (R1.out.below hv R1.out.lt).k2; go_simp; rfl)); go_simp)
  (refine h_call 3 rfl (by kernel_rfl) (h_free rfl) 52 ?_ ?_ ?_; rotate_left; (focus (go_simp; rfl)))
  refine (HN1.out wd (B1.out.trans (Jwd.out.mono B1.out.size))).mono ?_
  rintro z w2 ⟨y2, d2, rfl, -, hrd, hb⟩
  have RD2 := Lib.hid hrd
  have J2 := Lib.hid (Jwd.out.trans (hb.mono Jwd.out.size))
  clear hrd hb
  refine ⟨_, rfl, J2.out, ?_⟩
  go_simp
  (refine h_call 6 rfl (by kernel_rfl) (h_free rfl) 51 ?_ ?_ ?_; rotate_left; (focus (go_simp; rfl)))
  refine (shput _ q1 d2 T1 a n c L w2 RD2.out (by omega) (H.out.mono shOk (B1.out.trans (J2.out.mono B1.out.size))) hn).mono ?_
  rintro z w4 ⟨v4, rfl, hf, hb⟩
  have F4 := Lib.hid (hf.base (Nat.le_trans B1.out.size J2.out.size))
  have J4 := Lib.hid (J2.out.trans (hb.mono J2.out.size))
  clear hf hb
  refine ⟨_, rfl, J4.out, ?_⟩
  go_simp
  (refine h_read 7 rfl (by kernel_rfl) (by kernel_rfl) (h_free rfl) ?_ ?_ ?_; rotate_left; (focus (intro v hv; go_simp; rfl)); go_simp)
  refine h_done (by kernel_rfl) ?_
  go_wp2_with fail
  go_ret
  exact ⟨_, rfl, F4.out, B1.out.trans (J4.out.mono B1.out.size)⟩
set_option maxRecDepth 100000 in
set_option maxHeartbeats 16000000 in
theorem zbput (a0 : Option Addr) (m0 c0 : Nat) (S : List UInt8) (cp : Int) (a : Option Addr) (n c : Nat) (L : List Sh) (w : World) (hr : Rd w a0 m0 c0 S) (hm0 : m0 ≤ 2000000) (h : Ls shE w a n c L) (hn : n ≤ 100) (ie : SI64 cp) :
    Calls Try.prog 20 #[.slice a0 m0 c0, .agg (bdC cp a n c).toArray] w fun x w' => ∃ v, x = .returned v ∧ Fr w' w.heap.size v (S ++ putBd ⟨cp, L⟩) ∧ Below w.heap.size w w' := by
  have H := Lib.hid h
  have HL := Lib.hid h.hlen
  have hmx := h.hmax
  have hle := h.hle
  have HR := Lib.hid hr
  have ie2 := ie.2
  have HB := Lib.hid (fun k => codeSs_len (L.take k) (fun s hs => h.hfit s (List.mem_of_mem_take hs)))
  have hSl := hr.hlen
  obtain ⟨T1, hT1⟩ : ∃ ZZ, S ++ enc cp.toNat = ZZ := ⟨_, rfl⟩
  obtain ⟨q1, hq1⟩ : ∃ m, T1.length = m := ⟨_, rfl⟩
  have heT1 := P.enc_len cp.toNat (by omega)
  have hbT1 : q1 ≤ 2000000 + 9 := by rw [← hq1, ← hT1]; simp only [List.length_append]; omega
  obtain ⟨T2, hT2⟩ : ∃ ZZ, T1 ++ enc ((n : Int)).toNat = ZZ := ⟨_, rfl⟩
  obtain ⟨q2, hq2⟩ : ∃ m, T2.length = m := ⟨_, rfl⟩
  have heT2 := P.enc_len ((n : Int)).toNat (by omega)
  have hbT2 : q2 ≤ 2000000 + 18 := by rw [← hq2, ← hT2]; simp only [List.length_append]; omega
  have ET1 := Lib.hid hT1
  have ET2 := Lib.hid hT2
  have Q1 := Lib.hid hq1
  have Q2 := Lib.hid hq2
  rw [show S ++ putBd ⟨cp, L⟩ = T2 ++ codeSs (L.take n) by rw [← hT2, ← hT1, List.take_of_length_le (by rw [h.hlen]; exact Nat.le_refl _)]; unfold putBd; rw [h.hlen]; simp]
  clear h hr hT1 hT2 hq1 hq2 heT1 heT2 ie hSl
  go_enter Try.func20, Try.ntmps20
  go_wp2_with (first
    | ((with_reducible refine box_row (o := ⟨some 3, _, _, _, _, _⟩) rfl _ _ rfl (bdC cp a n c) rfl ?_); intro w1 hr hb hz; have R1 := Lib.hid hr; have B1 := Lib.hid hb; clear hr hb hz))
  refine region_h (fun v => Below w1.heap.size w1 v) (by kernel_rfl) (by kernel_rfl) (Below.refl _ _).drew ?_
  obtain ⟨wd, hwd⟩ : ∃ wd, w1.drew = wd := ⟨_, rfl⟩
  have Jwd : Hid (Below w1.heap.size w1 wd) := Lib.hid (by rw [← hwd]; exact (Below.refl _ _).drew)
  rw [hwd]
  clear hwd
  (refine h_read 0 rfl (by kernel_rfl) (by kernel_rfl) (h_free rfl) ?_ ?_ ?_; rotate_left; (focus (intro v hv; go_simp; rfl)); go_simp)
  (refine h_read 1 rfl (by kernel_rfl) (by kernel_rfl) (h_free rfl) ?_ ?_ ?_; rotate_left; (focus (intro v hv; go_simp; rfl)); go_simp)
  (refine h_read 2 rfl (by kernel_rfl) (by kernel_rfl) (h_free rfl) ?_ ?_ ?_; rotate_left; (focus (intro v hv; obtain ⟨x0, x1⟩ := (R1.out.below hv R1.out.lt).k2; go_simp; rfl)); go_simp)
  (refine h_read 4 rfl (by kernel_rfl) (by kernel_rfl) (h_free rfl) ?_ ?_ ?_; rotate_left; (focus (intro v hv; go_simp; rfl)); go_simp)
  (refine h_read 5 rfl (by kernel_rfl) (by kernel_rfl) (h_free rfl) ?_ ?_ ?_; rotate_left; (focus (intro v hv; obtain ⟨x0, x1⟩ := (R1.out.below hv R1.out.lt).k2; go_simp; rfl)); go_simp)
  (refine h_read 6 rfl (by kernel_rfl) (by kernel_rfl) (h_free rfl) ?_ ?_ ?_; rotate_left; (focus (intro v hv; go_simp; rfl)); go_simp)
  (refine h_call 3 rfl (by kernel_rfl) (h_free rfl) 54 ?_ ?_ ?_; rotate_left; (focus (go_simp; rfl)))
  refine (rnum a0 m0 c0 cp S wd (HR.out.mono (B1.out.trans (Jwd.out.mono B1.out.size))) (by omega) (by omega)).mono ?_
  rw [ET1.out]
  rintro z x1 ⟨vx1, rfl, hf, hb⟩
  obtain ⟨ax1, cx1, hv, hr⟩ := hf.form' q1 Q1.out
  subst hv
  have Rx1 := Lib.hid hr
  have Fx1 := Lib.hid hf
  have Jx1 := Lib.hid (Jwd.out.trans (hb.mono Jwd.out.size))
  clear hf hb hr
  refine ⟨_, rfl, Jx1.out, ?_⟩
  go_simp
  (refine h_call 7 rfl (by kernel_rfl) (h_free rfl) 54 ?_ ?_ ?_; rotate_left; (focus (go_simp; rfl)))
  refine (rnum ax1 q1 cx1 (n : Int) T1 x1 Rx1.out (by omega) (by omega)).mono ?_
  rw [ET2.out]
  rintro z x2 ⟨vx2, rfl, hf, hb⟩
  obtain ⟨ax2, cx2, hv, hr⟩ := hf.form' q2 Q2.out
  subst hv
  have Rx2 := Lib.hid hr
  have Fx2 := Lib.hid hf
  have Jx2 := Lib.hid (Jx1.out.trans (hb.mono Jx1.out.size))
  clear hf hb hr
  refine ⟨_, rfl, Jx2.out, ?_⟩
  go_simp
  (refine h_read 8 rfl (by kernel_rfl) (by kernel_rfl) (h_free rfl) ?_ ?_ ?_; rotate_left; (focus (intro v hv; go_simp; rfl)); go_simp)
  refine h_done (by kernel_rfl) ?_
  have RB := Lib.hid (R1.out.below Jx2.out R1.out.lt)
  have B3 := Lib.hid (B1.out.trans (Jx2.out.mono B1.out.size))
  have F3 := Lib.hid (Fx2.out.base (Nat.le_trans B1.out.size Jx1.out.size))
  go_wp2_with fail
  go_loopw [0, 5] (fun v i wr => ∃ (k : Nat) (y : Option Addr) (m d : Nat), v = .slice y m d ∧ i = .int .i64 (k : Int) ∧ k ≤ n ∧ Hid (Fr wr w.heap.size (.slice y m d) (T2 ++ codeSs (L.take k))) ∧ Hid (Row wr w.heap.size 25 (bdC cp a n c)) ∧ Hid (Below w.heap.size w wr)) (fun _ i _ => n - (intOf i).toNat)
  case atStart => exact ⟨0, _, _, _, rfl, rfl, Nat.zero_le _, Lib.hid (by simpa [codeSs] using F3.out), RB, B3⟩
  case round =>
    obtain ⟨k, y, m, d, rfl, rfl, hk, F, R, B⟩ := hrel
    obtain ⟨k0, k1⟩ := R.out.k2
    have hbl := HB.out k
    have hlk : (L.take k).length ≤ 100 := by rw [List.length_take]; omega
    have hcur : (T2 ++ codeSs (L.take k)).length ≤ 4000000 := by
      rw [List.length_append, Q2.out]; have : (L.take k).length * 18 ≤ 100 * 18 := Nat.mul_le_mul_right _ hlk; omega
    obtain ⟨u, hu⟩ : ∃ u, (T2 ++ codeSs (L.take k)).length = u := ⟨_, rfl⟩
    obtain ⟨y', d', hv, hrd⟩ := F.out.form' u hu
    obtain ⟨rfl, rfl, rfl⟩ : y = y' ∧ m = u ∧ d = d' := by injection hv with e1 e2 e3; exact ⟨e1, e2, e3⟩
    have hmb : m ≤ 4000000 := by rw [← hu]; exact hcur
    have HCUR := Lib.hid hcur
    by_cases hlt : k < n
    · obtain ⟨b, o, s, rfl, hx, hcell, hfs⟩ := H.out.at shOk B.out k hlt
      have HST := Lib.hid (show ((T2 ++ codeSs (L.take k)) ++ enc s.ln.toNat) ++ enc s.by'.toNat = T2 ++ codeSs (L.take (k + 1)) by rw [codeSs_step L k s hx]; simp [codeS, codeN])
      have I1 := Lib.hid hfs.ln
      have I2 := Lib.hid hfs.by'
      have XC0 := Lib.hid (show wr.cell? ⟨b, o + k * 2, none⟩ = some (.int .i64 s.ln) from hcell 0 _ rfl)
      have XC1 := Lib.hid (show wr.cell? ⟨b, o + k * 2 + 1, none⟩ = some (.int .i64 s.by') from hcell 1 _ rfl)
      have BL := Lib.hid (World.block_lt_of_cell? wr _ XC0.out)
      obtain ⟨xl, xb⟩ := s
      dsimp only at HST I1 I2 XC0 XC1
      have g1 : (0 : Int) ≤ (k : Int) := by omega
      have g2 : (k : Int) < (n : Int) := by omega
      have RY0 := Lib.hid hrd
      clear hx hfs hv hrd hu hbl hlk hcur hcell
      go_wp2_with fail
      refine region_h (fun v => Below wr.heap.size wr v) (by kernel_rfl) (by kernel_rfl) (Below.refl _ _).drew ?_
      obtain ⟨wd, hwd⟩ : ∃ wd, wr.drew = wd := ⟨_, rfl⟩
      have D0 : Hid (Below wr.heap.size wr wd) := Lib.hid (by rw [← hwd]; exact (Below.refl _ _).drew)
      have RY := Lib.hid (RY0.out.mono D0.out)
      rw [hwd]
      clear hwd k0 k1
      (refine h_read 0 rfl (by kernel_rfl) (by kernel_rfl) (h_free rfl) ?_ ?_ ?_; rotate_left; (focus (intro v hv; go_simp; rfl)); go_simp)
      (refine h_read 1 rfl (by kernel_rfl) (by kernel_rfl) (h_free rfl) ?_ ?_ ?_; rotate_left; (focus (intro v hv; go_simp; rfl)); go_simp)
      (refine h_read 2 rfl (by kernel_rfl) (by kernel_rfl) (h_free rfl) ?_ ?_ ?_; rotate_left; (focus (intro v hv; obtain ⟨x0, x1⟩ := (R.out.below hv R.out.lt).k2; have y0 := (hv.cell (p := ⟨b, o + k * 2, none⟩) BL.out).trans XC0.out; have y1 := (hv.cell (p := ⟨b, o + k * 2 + 1, none⟩) BL.out).trans XC1.out; go_simp; rfl)); go_simp)
      (refine h_read 3 rfl (by kernel_rfl) (by kernel_rfl) (h_free rfl) ?_ ?_ ?_; rotate_left; (focus (intro v hv; go_simp; rfl)); go_simp)
      (refine h_read 4 rfl (by kernel_rfl) (by kernel_rfl) (h_free rfl) ?_ ?_ ?_; rotate_left; (focus (intro v hv; go_simp; rfl)); go_simp)
      (refine h_read 5 rfl (by kernel_rfl) (by kernel_rfl) (h_free rfl) ?_ ?_ ?_; rotate_left; (focus (intro v hv; go_simp; rfl)); go_simp)
      (refine h_read 6 rfl (by kernel_rfl) (by kernel_rfl) (h_free rfl) ?_ ?_ ?_; rotate_left; (focus (intro v hv; obtain ⟨x0, x1⟩ := (R.out.below hv R.out.lt).k2; have y0 := (hv.cell (p := ⟨b, o + k * 2, none⟩) BL.out).trans XC0.out; have y1 := (hv.cell (p := ⟨b, o + k * 2 + 1, none⟩) BL.out).trans XC1.out; go_simp; rfl)); go_simp)
      (refine h_read 8 rfl (by kernel_rfl) (by kernel_rfl) (h_free rfl) ?_ ?_ ?_; rotate_left; (focus (intro v hv; go_simp; rfl)); go_simp)
      (refine h_read 9 rfl (by kernel_rfl) (by kernel_rfl) (h_free rfl) ?_ ?_ ?_; rotate_left; (focus (intro v hv; obtain ⟨x0, x1⟩ := (R.out.below hv R.out.lt).k2; have y0 := (hv.cell (p := ⟨b, o + k * 2, none⟩) BL.out).trans XC0.out; have y1 := (hv.cell (p := ⟨b, o + k * 2 + 1, none⟩) BL.out).trans XC1.out; go_simp; rfl)); go_simp)
      (refine h_read 10 rfl (by kernel_rfl) (by kernel_rfl) (h_free rfl) ?_ ?_ ?_; rotate_left; (focus (intro v hv; go_simp; rfl)); go_simp)
      (refine h_read 11 rfl (by kernel_rfl) (by kernel_rfl) (h_free rfl) ?_ ?_ ?_; rotate_left; (focus (intro v hv; go_simp; rfl)); go_simp)
      (refine h_read 12 rfl (by kernel_rfl) (by kernel_rfl) (h_free rfl) ?_ ?_ ?_; rotate_left; (focus (intro v hv; go_simp; rfl)); go_simp)
      (refine h_read 13 rfl (by kernel_rfl) (by kernel_rfl) (h_free rfl) ?_ ?_ ?_; rotate_left; (focus (intro v hv; obtain ⟨x0, x1⟩ := (R.out.below hv R.out.lt).k2; have y0 := (hv.cell (p := ⟨b, o + k * 2, none⟩) BL.out).trans XC0.out; have y1 := (hv.cell (p := ⟨b, o + k * 2 + 1, none⟩) BL.out).trans XC1.out; go_simp; rfl)); go_simp)
      (refine h_call 7 rfl (by kernel_rfl) (h_free rfl) 54 ?_ ?_ ?_; rotate_left; (focus (go_simp; rfl)))
      refine (rnum y m d xl (T2 ++ codeSs (L.take k)) wd RY.out (by have := I1.out.2; omega) (by omega)).mono ?_
      rintro z w5 ⟨v5, rfl, hf, hb⟩
      obtain ⟨q5, hq5⟩ : ∃ q, ((T2 ++ codeSs (L.take k)) ++ enc xl.toNat).length = q := ⟨_, rfl⟩
      obtain ⟨y5, d5, rfl, hr5⟩ := hf.form' q5 hq5
      have R5 := Lib.hid hr5
      have HQ5 := Lib.hid (show q5 ≤ 4000100 by rw [← hq5, List.length_append]; have := P.enc_len xl.toNat (by have := I1.out.2; omega); have := HCUR.out; omega)
      have D5 := Lib.hid (D0.out.trans (hb.mono D0.out.size))
      clear hf hb hr5 hq5
      refine ⟨_, rfl, D5.out, ?_⟩
      go_simp
      (refine h_call 14 rfl (by kernel_rfl) (h_free rfl) 54 ?_ ?_ ?_; rotate_left; (focus (go_simp; rfl)))
      refine (rnum y5 q5 d5 xb ((T2 ++ codeSs (L.take k)) ++ enc xl.toNat) w5 R5.out (by have := I2.out.2; omega) (by have := HQ5.out; omega)).mono ?_
      rw [HST.out]
      rintro z w6 ⟨v6, rfl, hf, hb⟩
      obtain ⟨q8, hq8⟩ : ∃ q, (T2 ++ codeSs (L.take (k + 1))).length = q := ⟨_, rfl⟩
      obtain ⟨y8, d8, rfl, -⟩ := hf.form' q8 hq8
      have D6 := Lib.hid (D5.out.trans (hb.mono D5.out.size))
      have F6 := Lib.hid (hf.base (Nat.le_trans B.out.size D5.out.size))
      clear hf hb hq8
      refine ⟨_, rfl, D6.out, ?_⟩
      go_simp
      (refine h_read 15 rfl (by kernel_rfl) (by kernel_rfl) (h_free rfl) ?_ ?_ ?_; rotate_left; (focus (intro v hv; go_simp; rfl)); go_simp)
      refine h_done (by kernel_rfl) ?_
      have R6 := Lib.hid (R.out.below D6.out R.out.lt)
      have B6 := Lib.hid (B.out.trans (D6.out.mono B.out.size))
      go_wp2_with fail
      go_roundw
      case rel => exact ⟨k + 1, _, _, _, rfl, vint (by omega), by omega, F6, R6, B6⟩
      case measure => simp [intOf]; omega
    · obtain rfl : n = k := by omega
      clear hv hrd hu hbl hlk hcur
      go_wp2_with fail
      go_ret
      exact ⟨_, rfl, F.out, B.out⟩
end Go.Proofs.Ytkmdbdieloimiaa.W
