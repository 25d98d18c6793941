/- LAYER 21 (revoke): plain: the bytes, and what bytes are read to; Put of both. -/
import Derived.Test.YtiopcojkdglapaaRvP
import Derived.Test.YtiopcojkdglapaaPackR5
import Derived.Test.YtiopcojkdglapaaByt
import Derived.Test.YtiopcojkdglapaaTail
set_option linter.unusedSimpArgs false
set_option linter.unusedVariables false
namespace Go.Proofs.Ytiopcojkdglapaa.W
open Go Go.ChangeShapes Go.WideShapes Go.ChangeAt Go.RowKit
open Go.Proofs.Ytiopcojkdglapaa.P (enc dec)
open Go.Proofs.Ytiopcojkdglapaa.S

def codeZ (l : List Int) : List UInt8 := l.flatMap (fun n => enc n.toNat)
def putRv (r : Rv) : List UInt8 := enc r.ep.toNat ++ (enc r.nx.toNat ++ (enc r.ids.length ++ codeZ r.ids))
theorem codeZ_len : ∀ l : List Int, (∀ n ∈ l, SI64 n) → (codeZ l).length ≤ l.length * 9
  | [], _ => by simp [codeZ]
  | n :: l, h => by
    have h0 := (h n (by simp)).2
    have h1 := P.enc_len n.toNat (by omega)
    have h2 := codeZ_len l (fun m hm => h m (by simp [hm]))
    simp only [codeZ, List.flatMap_cons, List.length_append, List.length_cons] at h2 ⊢
    omega
theorem codeZ_step (l : List Int) (k : Nat) (n : Int) (h : l[k]? = some n) : codeZ (l.take (k + 1)) = codeZ (l.take k) ++ enc n.toNat := by
  obtain ⟨h1, h2⟩ := List.getElem?_eq_some_iff.1 h
  unfold codeZ
  rw [List.take_succ_eq_append_getElem h1, List.flatMap_append, h2]; simp
-- ---- what is read
def rdIs : Nat → List UInt8 → Int → List Int × List UInt8 × Int
  | 0, l, e => ([], l, e)
  | n + 1, l, e => ((rdIs n l e).1 ++ [((numR 2147483648 (rdIs n l e).2.1 (rdIs n l e).2.2).1 : Int)], (numR 2147483648 (rdIs n l e).2.1 (rdIs n l e).2.2).2)
def rvZ : Rv := ⟨0, 0, []⟩
def endRv (r : Rv) (q : List UInt8 × Int) : Rv × List UInt8 × Int := if q.2 = 0 then if r.ok then (r, q) else (rvZ, [], 3) else (rvZ, q)
def readRv (l : List UInt8) (e : Int) : Rv × List UInt8 × Int :=
  let a := numR 2147483648 l e; let b := numR 2147483648 a.2.1 a.2.2; let k := numR 16 b.2.1 b.2.2; let h := rdIs k.1 k.2.1 k.2.2
  endRv ⟨(a.1 : Int), (b.1 : Int), h.1⟩ h.2
theorem rdIs_stuck (l : List UInt8) (e : Int) (m : Nat) (h : (rdIs m l e).2.2 ≠ 0) : ∀ k, (rdIs (m + k) l e).2 = (rdIs m l e).2
  | 0 => rfl
  | k + 1 => by
    have ih := rdIs_stuck l e m h k
    rw [show m + (k + 1) = (m + k) + 1 by omega]
    simp only [rdIs]
    rw [ih, numR_err h]
theorem rdIs_fit (l : List UInt8) (e : Int) : ∀ n, ∀ s ∈ (rdIs n l e).1, SI64 s
  | 0, s, h => by simp [rdIs] at h
  | n + 1, s, h => by
    simp only [rdIs, List.mem_append, List.mem_singleton] at h
    rcases h with h | rfl
    · exact rdIs_fit l e n s h
    · exact ⟨by omega, numR_lt _ _ _⟩
theorem rdIs_len (l : List UInt8) (e : Int) : ∀ n, (rdIs n l e).1.length = n
  | 0 => rfl
  | n + 1 => by simp [rdIs, rdIs_len l e n]
theorem rv_num_le (most : Int) (hm : 0 ≤ most) (l : List UInt8) (e : Int) : ((numR most l e).1 : Int) ≤ most := by
  by_cases he : e = 0
  · subst he
    by_cases h0 : (numR most l 0).2.2 = 0
    · exact (num_back most l h0).2
    · have : (numR most l 0).1 = 0 := by
        unfold numR at h0 ⊢
        repeat' split
        all_goals first | rfl | (simp_all)
      rw [this]; simpa using hm
  · rw [numR_err he]; simpa using hm
-- ---- Put
theorem rd_nil_rv {w : World} : Rd w none 0 0 [] := Rd_nil w
set_option maxRecDepth 100000 in
set_option maxHeartbeats 4000000 in
theorem pidcode (x : Int) (w : World) (h : SI64 x) :
    Calls Try.prog 120 #[.int .i64 x] w fun z w' => ∃ y m d, z = .returned (.slice y m d) ∧ Rd w' y m d (enc x.toNat) ∧ m ≤ 9 ∧ Below w.heap.size w w' := by
  have h2 := h.2
  have he := P.enc_len x.toNat (by omega)
  have HN := Lib.hid (pnum none 0 0 x [] w rd_nil_rv h2 (by omega))
  obtain ⟨q, hq⟩ : ∃ q, (enc x.toNat).length = q := ⟨_, rfl⟩
  rw [List.nil_append, Nat.zero_add, hq] at HN
  have HQ := Lib.hid hq
  have hqb : q ≤ 9 := by omega
  clear he hq h
  go_enter Try.func120, Try.ntmps120
  go_wp2_with (go_at_call 86; (with_reducible refine HN.out.mono ?_); rintro z w1 ⟨rfl, hbk, hb, -⟩; have K1 := Lib.hid hbk; have B1 := Lib.hid hb; clear hbk hb)
  go_ret
  exact ⟨_, _, _, rfl, K1.out.rd' q HQ.out (by omega), hqb, B1.out⟩
set_option maxRecDepth 100000 in
set_option maxHeartbeats 16000000 in
theorem iplsput (a0 : Option Addr) (m0 c0 : Nat) (S : List UInt8) (a : Option Addr) (n c : Nat) (L : List Int) (w : World) (hr : Rd w a0 m0 c0 S) (hm0 : m0 ≤ 3000000) (h : Sl .i64 w a n L) (hn : n ≤ 100) :
    Calls Try.prog 119 #[.slice a0 m0 c0, .slice a n c, .func (.func 120) #[] #[]] w fun x w' => ∃ v, x = .returned v ∧ Fr w' w.heap.size v (S ++ (enc n ++ codeZ L)) ∧ Below w.heap.size w w' := by
  have H := Lib.hid h
  have HL := Lib.hid h.1
  have HB := Lib.hid (fun k => codeZ_len (L.take k) (fun s hs => bd (h.2.2.1 s (List.mem_of_mem_take hs))))
  have he := P.enc_len n (by omega)
  obtain ⟨T, hT⟩ : ∃ T, S ++ enc n = T := ⟨_, rfl⟩
  obtain ⟨q, hq⟩ : ∃ q, m0 + (enc n).length = q := ⟨_, rfl⟩
  have hTq : T.length = q := by rw [← hT, List.length_append, hr.hlen]; exact hq
  have hqb : q ≤ 3000009 := by omega
  have HN := Lib.hid (pnum a0 m0 c0 (n : Int) S w hr (by omega) (by omega))
  rw [Int.toNat_natCast, hT, hq] at HN
  have HTQ := Lib.hid hTq
  rw [show S ++ (enc n ++ codeZ L) = T ++ codeZ L by rw [← hT]; simp]
  clear h hr hT hTq he hq
  go_enter Try.func119, Try.ntmps119
  go_wp2_with (go_at_call 86; (with_reducible refine HN.out.mono ?_); rintro z w1 ⟨rfl, hbk, hb, -⟩; have F1 := Lib.hid (show Fr w1 w.heap.size (.slice (some ⟨w.heap.size, 0, none⟩) q q) T by have := hbk.fr (base := w.heap.size) (Nat.le_refl _) (by rw [HTQ.out]; omega); rw [HTQ.out] at this; exact this); have B1 := Lib.hid hb; clear hbk hb)
  go_loopw [7, 16] (fun v i wr => ∃ (k : Nat) (y : Option Addr) (m d : Nat), v = .slice y m d ∧ i = .int .i64 (k : Int) ∧ k ≤ n ∧ Hid (Fr wr w.heap.size (.slice y m d) (T ++ codeZ (L.take k))) ∧ Hid (Below w.heap.size w wr)) (fun _ i _ => n - (intOf i).toNat)
  case atStart => exact ⟨0, _, _, _, rfl, rfl, Nat.zero_le _, Lib.hid (by simpa [codeZ] using F1.out), B1⟩
  case round =>
    obtain ⟨k, y, m, d, rfl, rfl, hk, F, B⟩ := hrel
    have hbl := HB.out k
    have hlk : (L.take k).length ≤ 100 := by rw [List.length_take]; omega
    have hcur : (T ++ codeZ (L.take k)).length ≤ 4000000 := by
      rw [List.length_append, HTQ.out]; have : (L.take k).length * 9 ≤ 100 * 9 := Nat.mul_le_mul_right _ hlk; omega
    by_cases hlt : k < n
    · obtain ⟨b, o, s, rfl, hx, hcell, hfs⟩ := H.out.at B.out k hlt
      have HCD := Lib.hid (fun w => pidcode s w hfs)
      have HST := Lib.hid (show T ++ codeZ (L.take (k + 1)) = (T ++ codeZ (L.take k)) ++ enc s.toNat by rw [codeZ_step L k s hx]; simp)
      obtain ⟨U, hU⟩ : ∃ U, T ++ codeZ (L.take k) = U := ⟨_, rfl⟩
      rw [hU] at F hcur HST
      have HUB := Lib.hid hcur
      have g1 : (0 : Int) ≤ (k : Int) := by omega
      have g2 : (k : Int) < (n : Int) := by omega
      clear hx hfs hU hbl hlk hcur
      go_wp2_with (first
        | (go_at_call 120; (with_reducible refine (HCD.out _).mono ?_); rintro z w7 ⟨y7, m7, d7, rfl, hrd, hm7, hb⟩; have R7 := Lib.hid hrd; have HM7 := Lib.hid hm7; have F7 := Lib.hid (F.out.kept hb); have B7 := Lib.hid (B.out.trans (hb.mono B.out.size)); clear hrd hb hm7)
        | ((with_reducible refine append_rd (o := ⟨some 24, _, _, _, _, _⟩) rfl _ _ rfl w.heap.size _ U ?_ F7.out y7 m7 d7 _ ?_ R7.out ?_ B7.out.size ?_); (focus (first | (go_simp; done) | (go_simp; rfl))); (focus (first | (go_simp; done) | (go_simp; rfl))); (focus (have := HUB.out; have := HM7.out; omega)); intro v8 w8 hN hb2 _; rw [← HST.out] at hN; obtain ⟨q8, hq8⟩ : ∃ q, (T ++ codeZ (L.take (k + 1))).length = q := ⟨_, rfl⟩; obtain ⟨y8, d8, rfl, -⟩ := hN.form' q8 hq8; have F8 := Lib.hid hN; have B8 := Lib.hid (B7.out.trans hb2); clear hN hb2 hq8))
      go_roundw
      case rel => exact ⟨k + 1, _, _, _, rfl, vint (by omega), by omega, F8, B8⟩
      case measure => simp [intOf]; omega
    · obtain rfl : n = k := by omega
      have ht : L.take n = L := List.take_of_length_le (by rw [HL.out]; exact Nat.le_refl _)
      rw [ht] at F hcur
      clear ht hbl hlk hcur
      go_wp2_with fail
      go_ret
      exact ⟨_, rfl, F.out, B.out⟩
set_option maxRecDepth 100000 in
set_option maxHeartbeats 16000000 in
theorem prput (a0 : Option Addr) (m0 c0 : Nat) (S : List UInt8) (ep nx : Int) (a : Option Addr) (n c : Nat) (L : List Int) (w : World) (hr : Rd w a0 m0 c0 S) (hm0 : m0 ≤ 2000000) (h : Ls intE w a n c L) (hn : n ≤ 100) (ie : SI64 ep) (ix : SI64 nx) :
    Calls Try.prog 60 #[.slice a0 m0 c0, .agg (rvC ep nx a n c).toArray] w fun x w' => ∃ v, x = .returned v ∧ Fr w' w.heap.size v (S ++ putRv ⟨ep, nx, L⟩) ∧ Below w.heap.size w w' := by
  have H := Lib.hid h
  have HL := Lib.hid h.hlen
  have hmx := h.hmax
  have hle := h.hle
  have HR := Lib.hid hr
  have ie2 := ie.2
  have ix2 := ix.2
  have HB := Lib.hid (fun k => codeZ_len (L.take k) (fun s hs => h.hfit s (List.mem_of_mem_take hs)))
  have hSl := hr.hlen
  obtain ⟨T1, hT1⟩ : ∃ ZZ, S ++ enc ep.toNat = ZZ := ⟨_, rfl⟩
  obtain ⟨q1, hq1⟩ : ∃ m, T1.length = m := ⟨_, rfl⟩
  have heT1 := P.enc_len ep.toNat (by omega)
  have hbT1 : q1 ≤ 2000000 + 9 := by rw [← hq1, ← hT1]; simp only [List.length_append]; omega
  obtain ⟨T2, hT2⟩ : ∃ ZZ, T1 ++ enc nx.toNat = ZZ := ⟨_, rfl⟩
  obtain ⟨q2, hq2⟩ : ∃ m, T2.length = m := ⟨_, rfl⟩
  have heT2 := P.enc_len nx.toNat (by omega)
  have hbT2 : q2 ≤ 2000000 + 18 := by rw [← hq2, ← hT2]; simp only [List.length_append]; omega
  have E1 : m0 + (enc ep.toNat).length = q1 := by rw [← hq1, ← hT1, List.length_append, hSl]
  have E2 : q1 + (enc nx.toNat).length = q2 := by rw [← hq2, ← hT2, List.length_append, hq1]
  have HN1 := Lib.hid (fun w' (hb : Below w.heap.size w w') => (by have q := pnum a0 m0 c0 ep S w' (hr.mono hb) ie2 (by omega); rw [E1, hT1] at q; exact q : Calls Try.prog 86 #[.slice a0 m0 c0, .int .i64 ep] w' fun e w'' => e = .returned (.slice (some ⟨w'.heap.size, 0, none⟩) q1 q1) ∧ Blk w'' w'.heap.size T1 ∧ Below w'.heap.size w' w'' ∧ w''.heap.size = w'.heap.size + 1))
  have HN2 := Lib.hid (fun y d w' (hrd : Rd w' y q1 d T1) => (by have q := pnum y q1 d nx T1 w' hrd ix2 (by omega); rw [E2, hT2] at q; exact q : Calls Try.prog 86 #[.slice y q1 d, .int .i64 nx] w' fun e w'' => e = .returned (.slice (some ⟨w'.heap.size, 0, none⟩) q2 q2) ∧ Blk w'' w'.heap.size T2 ∧ Below w'.heap.size w' w'' ∧ w''.heap.size = w'.heap.size + 1))
  have Q1 := Lib.hid hq1
  have Q2 := Lib.hid hq2
  rw [show S ++ putRv ⟨ep, nx, L⟩ = T2 ++ (enc n ++ codeZ L) by rw [← hT2, ← hT1]; unfold putRv; rw [h.hlen]; simp]
  clear h hr hT1 hT2 hq1 hq2 heT1 heT2 ie ix hSl E1 E2
  go_enter Try.func60, Try.ntmps60
  go_wp2_with (first
    | ((with_reducible refine box_row (o := ⟨some 3, _, _, _, _, _⟩) rfl _ _ rfl (rvC ep nx a n c) rfl ?_); intro w1 hr hb hz; have R1 := Lib.hid hr; have B1 := Lib.hid hb; obtain ⟨c0', c1, c2⟩ := hr.r3; have C0 := Lib.hid c0'; have C1 := Lib.hid c1; have C2 := Lib.hid c2; clear hr hb hz c0' c1 c2))
  refine region_h (fun v => Below w1.heap.size w1 v) (by kernel_rfl) (by kernel_rfl) (Below.refl _ _).drew ?_
  obtain ⟨wd, hwd⟩ : ∃ wd, w1.drew = wd := ⟨_, rfl⟩
  have Jwd : Hid (Below w1.heap.size w1 wd) := Lib.hid (by rw [← hwd]; exact (Below.refl _ _).drew)
  rw [hwd]
  clear hwd
  (refine h_read 0 rfl (by kernel_rfl) (by kernel_rfl) (h_free rfl) ?_ ?_ ?_; rotate_left; (focus (intro v hv; go_simp; rfl)); go_simp)
  (refine h_read 1 rfl (by kernel_rfl) (by kernel_rfl) (h_free rfl) ?_ ?_ ?_; rotate_left; (focus (intro v hv; go_simp; rfl)); go_simp)
  (refine h_read 2 rfl (by kernel_rfl) (by kernel_rfl) (h_free rfl) ?_ ?_ ?_; rotate_left; (focus (intro v hv; have x0 := (hv.cell (p := ⟨w.heap.size, 0, none⟩) R1.out.lt).trans C0.out; have x1 := (hv.cell (p := ⟨w.heap.size, 1, none⟩) R1.out.lt).trans C1.out; have x2 := (hv.cell (p := ⟨w.heap.size, 2, none⟩) R1.out.lt).trans C2.out; go_simp; rfl)); go_simp)
  (refine h_read 4 rfl (by kernel_rfl) (by kernel_rfl) (h_free rfl) ?_ ?_ ?_; rotate_left; (focus (intro v hv; go_simp; rfl)); go_simp)
  (refine h_read 5 rfl (by kernel_rfl) (by kernel_rfl) (h_free rfl) ?_ ?_ ?_; rotate_left; (focus (intro v hv; have x0 := (hv.cell (p := ⟨w.heap.size, 0, none⟩) R1.out.lt).trans C0.out; have x1 := (hv.cell (p := ⟨w.heap.size, 1, none⟩) R1.out.lt).trans C1.out; have x2 := (hv.cell (p := ⟨w.heap.size, 2, none⟩) R1.out.lt).trans C2.out; go_simp; rfl)); go_simp)
  (refine h_read 7 rfl (by kernel_rfl) (by kernel_rfl) (h_free rfl) ?_ ?_ ?_; rotate_left; (focus (intro v hv; go_simp; rfl)); go_simp)
  (refine h_read 8 rfl (by kernel_rfl) (by kernel_rfl) (h_free rfl) ?_ ?_ ?_; rotate_left; (focus (intro v hv; have x0 := (hv.cell (p := ⟨w.heap.size, 0, none⟩) R1.out.lt).trans C0.out; have x1 := (hv.cell (p := ⟨w.heap.size, 1, none⟩) R1.out.lt).trans C1.out; have x2 := (hv.cell (p := ⟨w.heap.size, 2, none⟩) R1.out.lt).trans C2.out; go_simp; rfl)); go_simp)
  (refine h_call 3 rfl (by kernel_rfl) (h_free rfl) 86 ?_ ?_ ?_; rotate_left; (focus (go_simp; rfl)))
  refine (HN1.out wd (B1.out.trans (Jwd.out.mono B1.out.size))).mono ?_
  rintro z w2 ⟨rfl, hbk, hb, -⟩
  have RD2 := Lib.hid (hbk.rd' q1 Q1.out (by omega))
  have J2 := Lib.hid (Jwd.out.trans (hb.mono Jwd.out.size))
  clear hbk hb
  refine ⟨_, rfl, J2.out, ?_⟩
  go_simp
  (refine h_call 6 rfl (by kernel_rfl) (h_free rfl) 86 ?_ ?_ ?_; rotate_left; (focus (go_simp; rfl)))
  refine (HN2.out _ _ w2 RD2.out).mono ?_
  rintro z w3 ⟨rfl, hbk, hb, -⟩
  have RD3 := Lib.hid (hbk.rd' q2 Q2.out (by omega))
  have J3 := Lib.hid (J2.out.trans (hb.mono J2.out.size))
  clear hbk hb
  refine ⟨_, rfl, J3.out, ?_⟩
  go_simp
  (refine h_call 9 rfl (by kernel_rfl) (h_free rfl) 119 ?_ ?_ ?_; rotate_left; (focus (go_simp; rfl)))
  refine (iplsput _ q2 q2 T2 a n c L w3 RD3.out (by omega) (H.out.sl.mono (B1.out.trans (J3.out.mono B1.out.size))) hn).mono ?_
  rintro z w4 ⟨v4, rfl, hf, hb⟩
  have F4 := Lib.hid (hf.base (Nat.le_trans B1.out.size J3.out.size))
  have J4 := Lib.hid (J3.out.trans (hb.mono J3.out.size))
  clear hf hb
  refine ⟨_, rfl, J4.out, ?_⟩
  go_simp
  (refine h_read 10 rfl (by kernel_rfl) (by kernel_rfl) (h_free rfl) ?_ ?_ ?_; rotate_left; (focus (intro v hv; go_simp; rfl)); go_simp)
  refine h_done (by kernel_rfl) ?_
  go_wp2_with fail
  go_ret
  exact ⟨_, rfl, F4.out, B1.out.trans (J4.out.mono B1.out.size)⟩
set_option maxRecDepth 100000 in
set_option maxHeartbeats 16000000 in
theorem zput (a0 : Option Addr) (m0 c0 : Nat) (S : List UInt8) (ep nx : Int) (a : Option Addr) (n c : Nat) (L : List Int) (w : World) (hr : Rd w a0 m0 c0 S) (hm0 : m0 ≤ 2000000) (h : Ls intE w a n c L) (hn : n ≤ 100) (ie : SI64 ep) (ix : SI64 nx) :
    Calls Try.prog 61 #[.slice a0 m0 c0, .agg (rvC ep nx a n c).toArray] w fun x w' => ∃ v, x = .returned v ∧ Fr w' w.heap.size v (S ++ putRv ⟨ep, nx, L⟩) ∧ Below w.heap.size w w' := by
  have H := Lib.hid h
  have HL := Lib.hid h.hlen
  have hmx := h.hmax
  have hle := h.hle
  have HR := Lib.hid hr
  have ie2 := ie.2
  have ix2 := ix.2
  have HB := Lib.hid (fun k => codeZ_len (L.take k) (fun s hs => h.hfit s (List.mem_of_mem_take hs)))
  have hSl := hr.hlen
  obtain ⟨T1, hT1⟩ : ∃ ZZ, S ++ enc ep.toNat = ZZ := ⟨_, rfl⟩
  obtain ⟨q1, hq1⟩ : ∃ m, T1.length = m := ⟨_, rfl⟩
  have heT1 := P.enc_len ep.toNat (by omega)
  have hbT1 : q1 ≤ 2000000 + 9 := by rw [← hq1, ← hT1]; simp only [List.length_append]; omega
  obtain ⟨T2, hT2⟩ : ∃ ZZ, T1 ++ enc nx.toNat = ZZ := ⟨_, rfl⟩
  obtain ⟨q2, hq2⟩ : ∃ m, T2.length = m := ⟨_, rfl⟩
  have heT2 := P.enc_len nx.toNat (by omega)
  have hbT2 : q2 ≤ 2000000 + 18 := by rw [← hq2, ← hT2]; simp only [List.length_append]; omega
  obtain ⟨T3, hT3⟩ : ∃ ZZ, T2 ++ enc ((n : Int)).toNat = ZZ := ⟨_, rfl⟩
  obtain ⟨q3, hq3⟩ : ∃ m, T3.length = m := ⟨_, rfl⟩
  have heT3 := P.enc_len ((n : Int)).toNat (by omega)
  have hbT3 : q3 ≤ 2000000 + 27 := by rw [← hq3, ← hT3]; simp only [List.length_append]; omega
  have ET1 := Lib.hid hT1
  have ET2 := Lib.hid hT2
  have ET3 := Lib.hid hT3
  have Q1 := Lib.hid hq1
  have Q2 := Lib.hid hq2
  have Q3 := Lib.hid hq3
  rw [show S ++ putRv ⟨ep, nx, L⟩ = T3 ++ codeZ (L.take n) by rw [← hT3, ← hT2, ← hT1, List.take_of_length_le (by rw [h.hlen]; exact Nat.le_refl _)]; unfold putRv; rw [h.hlen]; simp]
  clear h hr hT1 hT2 hT3 hq1 hq2 hq3 heT1 heT2 heT3 ie ix hSl
  go_enter Try.func61, Try.ntmps61
  go_wp2_with (first
    | ((with_reducible refine box_row (o := ⟨some 3, _, _, _, _, _⟩) rfl _ _ rfl (rvC ep nx a n c) rfl ?_); intro w1 hr hb hz; have R1 := Lib.hid hr; have B1 := Lib.hid hb; obtain ⟨c0', c1, c2⟩ := hr.r3; have C0 := Lib.hid c0'; have C1 := Lib.hid c1; have C2 := Lib.hid c2; clear hr hb hz c0' c1 c2))
  refine region_h (fun v => Below w1.heap.size w1 v) (by kernel_rfl) (by kernel_rfl) (Below.refl _ _).drew ?_
  obtain ⟨wd, hwd⟩ : ∃ wd, w1.drew = wd := ⟨_, rfl⟩
  have Jwd : Hid (Below w1.heap.size w1 wd) := Lib.hid (by rw [← hwd]; exact (Below.refl _ _).drew)
  rw [hwd]
  clear hwd
  (refine h_read 0 rfl (by kernel_rfl) (by kernel_rfl) (h_free rfl) ?_ ?_ ?_; rotate_left; (focus (intro v hv; go_simp; rfl)); go_simp)
  (refine h_read 1 rfl (by kernel_rfl) (by kernel_rfl) (h_free rfl) ?_ ?_ ?_; rotate_left; (focus (intro v hv; go_simp; rfl)); go_simp)
  (refine h_read 2 rfl (by kernel_rfl) (by kernel_rfl) (h_free rfl) ?_ ?_ ?_; rotate_left; (focus (intro v hv; have x0 := (hv.cell (p := ⟨w.heap.size, 0, none⟩) R1.out.lt).trans C0.out; have x1 := (hv.cell (p := ⟨w.heap.size, 1, none⟩) R1.out.lt).trans C1.out; have x2 := (hv.cell (p := ⟨w.heap.size, 2, none⟩) R1.out.lt).trans C2.out; go_simp; rfl)); go_simp)
  (refine h_read 4 rfl (by kernel_rfl) (by kernel_rfl) (h_free rfl) ?_ ?_ ?_; rotate_left; (focus (intro v hv; go_simp; rfl)); go_simp)
  (refine h_read 5 rfl (by kernel_rfl) (by kernel_rfl) (h_free rfl) ?_ ?_ ?_; rotate_left; (focus (intro v hv; have x0 := (hv.cell (p := ⟨w.heap.size, 0, none⟩) R1.out.lt).trans C0.out; have x1 := (hv.cell (p := ⟨w.heap.size, 1, none⟩) R1.out.lt).trans C1.out; have x2 := (hv.cell (p := ⟨w.heap.size, 2, none⟩) R1.out.lt).trans C2.out; go_simp; rfl)); go_simp)
  (refine h_read 7 rfl (by kernel_rfl) (by kernel_rfl) (h_free rfl) ?_ ?_ ?_; rotate_left; (focus (intro v hv; go_simp; rfl)); go_simp)
  (refine h_read 8 rfl (by kernel_rfl) (by kernel_rfl) (h_free rfl) ?_ ?_ ?_; rotate_left; (focus (intro v hv; have x0 := (hv.cell (p := ⟨w.heap.size, 0, none⟩) R1.out.lt).trans C0.out; have x1 := (hv.cell (p := ⟨w.heap.size, 1, none⟩) R1.out.lt).trans C1.out; have x2 := (hv.cell (p := ⟨w.heap.size, 2, none⟩) R1.out.lt).trans C2.out; go_simp; rfl)); go_simp)
  (refine h_read 9 rfl (by kernel_rfl) (by kernel_rfl) (h_free rfl) ?_ ?_ ?_; rotate_left; (focus (intro v hv; go_simp; rfl)); go_simp)
  (refine h_call 3 rfl (by kernel_rfl) (h_free rfl) 88 ?_ ?_ ?_; rotate_left; (focus (go_simp; rfl)))
  refine (rnum a0 m0 c0 ep S wd (HR.out.mono (B1.out.trans (Jwd.out.mono B1.out.size))) (by omega) (by omega)).mono ?_
  rw [ET1.out]
  rintro z x1 ⟨vx1, rfl, hf, hb⟩
  obtain ⟨ax1, cx1, hv, hr⟩ := hf.form' q1 Q1.out
  subst hv
  have Rx1 := Lib.hid hr
  have Fx1 := Lib.hid hf
  have Jx1 := Lib.hid (Jwd.out.trans (hb.mono Jwd.out.size))
  clear hf hb hr
  refine ⟨_, rfl, Jx1.out, ?_⟩
  go_simp
  (refine h_call 6 rfl (by kernel_rfl) (h_free rfl) 88 ?_ ?_ ?_; rotate_left; (focus (go_simp; rfl)))
  refine (rnum ax1 q1 cx1 nx T1 x1 Rx1.out (by omega) (by omega)).mono ?_
  rw [ET2.out]
  rintro z x2 ⟨vx2, rfl, hf, hb⟩
  obtain ⟨ax2, cx2, hv, hr⟩ := hf.form' q2 Q2.out
  subst hv
  have Rx2 := Lib.hid hr
  have Fx2 := Lib.hid hf
  have Jx2 := Lib.hid (Jx1.out.trans (hb.mono Jx1.out.size))
  clear hf hb hr
  refine ⟨_, rfl, Jx2.out, ?_⟩
  go_simp
  (refine h_call 10 rfl (by kernel_rfl) (h_free rfl) 88 ?_ ?_ ?_; rotate_left; (focus (go_simp; rfl)))
  refine (rnum ax2 q2 cx2 (n : Int) T2 x2 Rx2.out (by omega) (by omega)).mono ?_
  rw [ET3.out]
  rintro z x3 ⟨vx3, rfl, hf, hb⟩
  obtain ⟨ax3, cx3, hv, hr⟩ := hf.form' q3 Q3.out
  subst hv
  have Rx3 := Lib.hid hr
  have Fx3 := Lib.hid hf
  have Jx3 := Lib.hid (Jx2.out.trans (hb.mono Jx2.out.size))
  clear hf hb hr
  refine ⟨_, rfl, Jx3.out, ?_⟩
  go_simp
  (refine h_read 11 rfl (by kernel_rfl) (by kernel_rfl) (h_free rfl) ?_ ?_ ?_; rotate_left; (focus (intro v hv; go_simp; rfl)); go_simp)
  refine h_done (by kernel_rfl) ?_
  have RB := Lib.hid (R1.out.below Jx3.out R1.out.lt)
  have B3 := Lib.hid (B1.out.trans (Jx3.out.mono B1.out.size))
  have F3 := Lib.hid (Fx3.out.base (Nat.le_trans B1.out.size Jx2.out.size))
  go_wp2_with fail
  go_loopw [0, 5] (fun v i wr => ∃ (k : Nat) (y : Option Addr) (m d : Nat), v = .slice y m d ∧ i = .int .i64 (k : Int) ∧ k ≤ n ∧ Hid (Fr wr w.heap.size (.slice y m d) (T3 ++ codeZ (L.take k))) ∧ Hid (Row wr w.heap.size 78 (rvC ep nx a n c)) ∧ Hid (Below w.heap.size w wr)) (fun _ i _ => n - (intOf i).toNat)
  case atStart => exact ⟨0, _, _, _, rfl, rfl, Nat.zero_le _, Lib.hid (by simpa [codeZ] using F3.out), RB, B3⟩
  case round =>
    obtain ⟨k, y, m, d, rfl, rfl, hk, F, R, B⟩ := hrel
    obtain ⟨k0, k1, k2⟩ := R.out.r3
    have hbl := HB.out k
    have hlk : (L.take k).length ≤ 100 := by rw [List.length_take]; omega
    have hcur : (T3 ++ codeZ (L.take k)).length ≤ 4000000 := by
      rw [List.length_append, Q3.out]; have : (L.take k).length * 9 ≤ 100 * 9 := Nat.mul_le_mul_right _ hlk; omega
    obtain ⟨u, hu⟩ : ∃ u, (T3 ++ codeZ (L.take k)).length = u := ⟨_, rfl⟩
    obtain ⟨y', d', hv, hrd⟩ := F.out.form' u hu
    obtain ⟨rfl, rfl, rfl⟩ : y = y' ∧ m = u ∧ d = d' := by injection hv with e1 e2 e3; exact ⟨e1, e2, e3⟩
    have hmb : m ≤ 4000000 := by rw [← hu]; exact hcur
    by_cases hlt : k < n
    · obtain ⟨b, o, s, rfl, hx, hcell, hfs⟩ := H.out.sl.at B.out k hlt
      have HST := Lib.hid (show (T3 ++ codeZ (L.take k)) ++ enc s.toNat = T3 ++ codeZ (L.take (k + 1)) by rw [codeZ_step L k s hx]; simp)
      have HN := Lib.hid (rnum y m d s (T3 ++ codeZ (L.take k)) wr hrd hfs.2 (by omega))
      rw [HST.out] at HN
      have g1 : (0 : Int) ≤ (k : Int) := by omega
      have g2 : (k : Int) < (n : Int) := by omega
      clear hx hfs hv hrd hu hbl hlk hcur
      go_wp2_with (go_at_call 88; (with_reducible refine HN.out.mono ?_); rintro z w5 ⟨v5, rfl, hf, hb⟩; obtain ⟨q8, hq8⟩ : ∃ q, (T3 ++ codeZ (L.take (k + 1))).length = q := ⟨_, rfl⟩; obtain ⟨y8, d8, rfl, -⟩ := hf.form' q8 hq8; have F5 := Lib.hid (hf.base B.out.size); have R5 := Lib.hid (R.out.below hb R.out.lt); have B5 := Lib.hid (B.out.trans (hb.mono B.out.size)); clear hf hb hq8)
      clear k0 k1 k2
      go_roundw
      case rel => exact ⟨k + 1, _, _, _, rfl, vint (by omega), by omega, F5, R5, B5⟩
      case measure => simp [intOf]; omega
    · obtain rfl : n = k := by omega
      clear hv hrd hu hbl hlk hcur
      go_wp2_with fail
      go_ret
      exact ⟨_, rfl, F.out, B.out⟩
end Go.Proofs.Ytiopcojkdglapaa.W
