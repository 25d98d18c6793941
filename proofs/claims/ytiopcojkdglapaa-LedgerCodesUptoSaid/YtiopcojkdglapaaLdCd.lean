/- LAYER 19 (ledger): lists.Numbers, holdCode, lists.Put, Put of the program. -/
import Derived.Test.YtiopcojkdglapaaLdCb
import Derived.Test.YtiopcojkdglapaaLdQ
set_option linter.unusedSimpArgs false
set_option linter.unusedVariables false
namespace Go.Proofs.Ytiopcojkdglapaa.W
open Go Go.ChangeShapes Go.WideShapes Go.ChangeAt Go.RowKit
open Go.Proofs.Ytiopcojkdglapaa.P (enc dec)
open Go.Proofs.Ytiopcojkdglapaa.S

theorem rd_nil_ld {w : World} : Rd w none 0 0 [] := by
  obtain ⟨a, c, hv, h⟩ := (Fr.nil w 0).form' 0 rfl
  injection hv with e1 e2 e3
  subst e1 e3
  exact h
theorem fr_upd {w w' : World} {base g : Nat} {v : Value} {l : List UInt8} (h : Fr w base v l) (hu : Upd w w' g) (hg : v.ownBlock ≠ some g) : Fr w' base v l := by
  obtain ⟨h1, h2⟩ := h
  refine ⟨h1, ?_⟩
  rcases h2 with h2 | ⟨b, cap, cur, rfl, hb, hh, r⟩
  · exact .inl h2
  · exact .inr ⟨b, cap, cur, rfl, hb, by rw [hu.block b (fun e => hg (by rw [e]; rfl))]; exact hh, r⟩

theorem codeI_snoc (l : List Int) (k : Nat) (n : Int) (h : l[k]? = some n) : codeI (l.take (k + 1)) = codeI (l.take k) ++ enc n.toNat := by
  obtain ⟨h1, h2⟩ := List.getElem?_eq_some_iff.1 h
  unfold codeI
  rw [List.take_succ_eq_append_getElem h1, List.flatMap_append, h2]; simp
set_option maxRecDepth 100000 in
set_option maxHeartbeats 8000000 in
theorem lnumI (a0 : Option Addr) (m0 c0 : Nat) (S : List UInt8) (a : Option Addr) (n c : Nat) (l : List Int) (w : World) (hr : Rd w a0 m0 c0 S) (hm0 : m0 ≤ 100000000) (h : Sl .i64 w a n l) (h0 : 0 < n) (h8 : n ≤ 8) :
    Calls Try.prog 114 #[.slice a0 m0 c0, .slice a n c] w fun x w' => ∃ y m d, x = .returned (.slice y m d) ∧ Rd w' y m d (S ++ codeI l) ∧ m ≤ m0 + 72 ∧ Below w.heap.size w w' := by
  have HR := Lib.hid hr
  clear hr
  obtain ⟨hl, hmax, hb, hc⟩ := h
  obtain ⟨b, off, rfl, hlt0, hcell⟩ := hc.resolve_left (by omega)
  have HC := Lib.hid hcell
  have HLT := Lib.hid hlt0
  have HL := Lib.hid hl
  have HB := Lib.hid (show ∀ x ∈ l, x ≤ 9223372036854775807 from fun x hx => (bd (hb x hx)).2)
  clear hcell hlt0 hl hb hc
  go_enter Try.func114, Try.ntmps114
  go_wp2_with fail
  go_loopw [0, 9] (fun v i wr => ∃ (k : Nat) (y : Option Addr) (m d : Nat), v = .slice y m d ∧ i = .int .i64 (k : Int) ∧ k ≤ n ∧ m ≤ m0 + k * 9 ∧ Hid (Rd wr y m d (S ++ codeI (l.take k))) ∧ Hid (Below w.heap.size w wr)) (fun _ i _ => n - (intOf i).toNat)
  case atStart => exact ⟨0, _, _, _, rfl, rfl, Nat.zero_le _, by omega, Lib.hid (by simpa [codeI] using HR.out), Lib.hid (Below.refl _ _)⟩
  case round =>
    obtain ⟨k, y, m, d, rfl, rfl, hk, hm, R, B⟩ := hrel
    by_cases hlt : k < n
    · have hcell := (B.out.cell (p := ⟨b, off + k, none⟩) HLT.out).trans (HC.out k hlt)
      have hk' : k < l.length := by rw [HL.out]; exact hlt
      have e : l.getD k 0 = l[k] := by simp [hk']
      obtain ⟨x, hx⟩ : ∃ x, l[k] = x := ⟨_, rfl⟩
      rw [e, hx] at hcell
      have hle := HB.out l[k] (List.getElem_mem _)
      rw [hx] at hle
      have hst : S ++ codeI (l.take (k + 1)) = (S ++ codeI (l.take k)) ++ enc x.toNat := by rw [codeI_snoc l k x (by rw [List.getElem?_eq_getElem hk', hx])]; simp
      have HST := Lib.hid hst
      have he := P.enc_len x.toNat (by omega)
      obtain ⟨q, hq⟩ : ∃ q, m + (enc x.toNat).length = q := ⟨_, rfl⟩
      have hqb : q ≤ m0 + (k + 1) * 9 := by omega
      have HN := Lib.hid (pnum y m d x _ wr R.out hle (by omega))
      rw [hq, ← hst] at HN
      have g1 : (0 : Int) ≤ (k : Int) := by omega
      have g2 : (k : Int) < (n : Int) := by omega
      have HQ := Lib.hid (show (S ++ codeI (l.take (k + 1))).length = q by rw [hst, List.length_append, R.out.hlen]; exact hq)
      clear e hx hst he hq hk'
      go_wp2_with (go_at_call 86; (with_reducible refine HN.out.mono ?_); rintro z w1 ⟨rfl, hbk, hb, -⟩; have K1 := Lib.hid hbk; have B1 := Lib.hid (B.out.trans (hb.mono B.out.size)); clear hbk hb)
      go_roundw
      case rel => exact ⟨k + 1, _, _, _, rfl, vint (by omega), by omega, hqb, Lib.hid (K1.out.rd' q HQ.out (by omega)), B1⟩
      case measure => simp [intOf]; omega
    · obtain rfl : n = k := by omega
      have ht : l.take n = l := List.take_of_length_le (by rw [HL.out]; exact Nat.le_refl _)
      rw [ht] at R
      go_wp2_with fail
      go_ret
      exact ⟨_, _, _, rfl, R.out, by omega, B.out⟩
set_option maxRecDepth 100000 in
set_option maxHeartbeats 8000000 in
theorem pholdcode (s : Hd) (w : World) (h : s.fit) (hs : s.sp.size ≤ 2000000) :
    Calls Try.prog 115 #[.agg s.cells.toArray] w fun x w' => ∃ y m d, x = .returned (.slice y m d) ∧ Rd w' y m d (codeH s) ∧ m ≤ 2000081 ∧ Below w.heap.size w w' := by
  have hcl := codeH_len h hs
  obtain ⟨i1, i2, i3, i4, i5, sp⟩ := s
  have I1 := Lib.hid (show SI64 i1 from h.id)
  have I2 := Lib.hid (show SI64 i2 from h.cl)
  have I3 := Lib.hid (show SI64 i3 from h.by')
  have I4 := Lib.hid (show SI64 i4 from h.un)
  have I5 := Lib.hid (show SI64 i5 from h.ti)
  have hs : sp.size ≤ 2000000 := hs
  have HCH := Lib.hid (show codeI [i1, i2, i3, i4, i5] ++ (enc sp.size ++ sp.data.toList) = codeH ⟨i1, i2, i3, i4, i5, sp⟩ from rfl)
  obtain ⟨C, hC⟩ : ∃ C, codeH ⟨i1, i2, i3, i4, i5, sp⟩ = C := ⟨_, rfl⟩
  rw [hC] at HCH hcl ⊢
  obtain ⟨D, hD⟩ : ∃ D, codeI [i1, i2, i3, i4, i5] = D := ⟨_, rfl⟩
  rw [hD] at HCH
  have HD := Lib.hid hD
  clear h hC hD
  rw [show (Hd.cells ⟨i1, i2, i3, i4, i5, sp⟩) = [.int .i64 i1, .int .i64 i2, .int .i64 i3, .int .i64 i4, .int .i64 i5, .string sp] from rfl]
  go_enter Try.func115, Try.ntmps115
  go_wp2_with (first
    | (with_reducible refine box_row (o := ⟨some 1, _, _, _, _, _⟩) rfl _ _ rfl [.int .i64 i1, .int .i64 i2, .int .i64 i3, .int .i64 i4, .int .i64 i5, .string sp] rfl ?_; intro w1 hr1 hb1 hz1; have R1 := Lib.hid hr1; obtain ⟨c0, c1, c2, c3, c4, c5⟩ := hr1.h6; have C0 := Lib.hid c0; have C1 := Lib.hid c1; have C2 := Lib.hid c2; have C3 := Lib.hid c3; have C4 := Lib.hid c4; have C5 := Lib.hid c5; have B1 := Lib.hid hb1; clear hr1 hb1 hz1 c0 c1 c2 c3 c4 c5))
  refine region_h (fun v => Below w1.heap.size w1 v) (by kernel_rfl) (by kernel_rfl) (Below.refl _ _).drew ?_
  obtain ⟨wd, hwd⟩ : ∃ wd, w1.drew = wd := ⟨_, rfl⟩
  have Jwd : Hid (Below w1.heap.size w1 wd) := Lib.hid (by rw [← hwd]; exact (Below.refl _ _).drew)
  rw [hwd]
  clear hwd
  (refine h_read 0 rfl (by kernel_rfl) (by kernel_rfl) (h_free rfl) ?_ ?_ ?_; rotate_left; (focus (intro v hv; go_simp; rfl)); go_simp)
  (refine h_read 1 rfl (by kernel_rfl) (by kernel_rfl) (h_free rfl) ?_ ?_ ?_; rotate_left; (focus (intro v hv; have x0 := (hv.cell (p := ⟨w.heap.size, 0, none⟩) R1.out.lt).trans C0.out; have x1 := (hv.cell (p := ⟨w.heap.size, 1, none⟩) R1.out.lt).trans C1.out; have x2 := (hv.cell (p := ⟨w.heap.size, 2, none⟩) R1.out.lt).trans C2.out; have x3 := (hv.cell (p := ⟨w.heap.size, 3, none⟩) R1.out.lt).trans C3.out; have x4 := (hv.cell (p := ⟨w.heap.size, 4, none⟩) R1.out.lt).trans C4.out; have x5 := (hv.cell (p := ⟨w.heap.size, 5, none⟩) R1.out.lt).trans C5.out; go_simp; rfl)); go_simp)
  (refine h_read 2 rfl (by kernel_rfl) (by kernel_rfl) (h_free rfl) ?_ ?_ ?_; rotate_left; (focus (intro v hv; go_simp; rfl)); go_simp)
  (refine h_read 3 rfl (by kernel_rfl) (by kernel_rfl) (h_free rfl) ?_ ?_ ?_; rotate_left; (focus (intro v hv; have x0 := (hv.cell (p := ⟨w.heap.size, 0, none⟩) R1.out.lt).trans C0.out; have x1 := (hv.cell (p := ⟨w.heap.size, 1, none⟩) R1.out.lt).trans C1.out; have x2 := (hv.cell (p := ⟨w.heap.size, 2, none⟩) R1.out.lt).trans C2.out; have x3 := (hv.cell (p := ⟨w.heap.size, 3, none⟩) R1.out.lt).trans C3.out; have x4 := (hv.cell (p := ⟨w.heap.size, 4, none⟩) R1.out.lt).trans C4.out; have x5 := (hv.cell (p := ⟨w.heap.size, 5, none⟩) R1.out.lt).trans C5.out; go_simp; rfl)); go_simp)
  (refine h_read 4 rfl (by kernel_rfl) (by kernel_rfl) (h_free rfl) ?_ ?_ ?_; rotate_left; (focus (intro v hv; go_simp; rfl)); go_simp)
  (refine h_read 5 rfl (by kernel_rfl) (by kernel_rfl) (h_free rfl) ?_ ?_ ?_; rotate_left; (focus (intro v hv; have x0 := (hv.cell (p := ⟨w.heap.size, 0, none⟩) R1.out.lt).trans C0.out; have x1 := (hv.cell (p := ⟨w.heap.size, 1, none⟩) R1.out.lt).trans C1.out; have x2 := (hv.cell (p := ⟨w.heap.size, 2, none⟩) R1.out.lt).trans C2.out; have x3 := (hv.cell (p := ⟨w.heap.size, 3, none⟩) R1.out.lt).trans C3.out; have x4 := (hv.cell (p := ⟨w.heap.size, 4, none⟩) R1.out.lt).trans C4.out; have x5 := (hv.cell (p := ⟨w.heap.size, 5, none⟩) R1.out.lt).trans C5.out; go_simp; rfl)); go_simp)
  (refine h_read 6 rfl (by kernel_rfl) (by kernel_rfl) (h_free rfl) ?_ ?_ ?_; rotate_left; (focus (intro v hv; go_simp; rfl)); go_simp)
  (refine h_read 7 rfl (by kernel_rfl) (by kernel_rfl) (h_free rfl) ?_ ?_ ?_; rotate_left; (focus (intro v hv; have x0 := (hv.cell (p := ⟨w.heap.size, 0, none⟩) R1.out.lt).trans C0.out; have x1 := (hv.cell (p := ⟨w.heap.size, 1, none⟩) R1.out.lt).trans C1.out; have x2 := (hv.cell (p := ⟨w.heap.size, 2, none⟩) R1.out.lt).trans C2.out; have x3 := (hv.cell (p := ⟨w.heap.size, 3, none⟩) R1.out.lt).trans C3.out; have x4 := (hv.cell (p := ⟨w.heap.size, 4, none⟩) R1.out.lt).trans C4.out; have x5 := (hv.cell (p := ⟨w.heap.size, 5, none⟩) R1.out.lt).trans C5.out; go_simp; rfl)); go_simp)
  (refine h_read 8 rfl (by kernel_rfl) (by kernel_rfl) (h_free rfl) ?_ ?_ ?_; rotate_left; (focus (intro v hv; go_simp; rfl)); go_simp)
  (refine h_read 9 rfl (by kernel_rfl) (by kernel_rfl) (h_free rfl) ?_ ?_ ?_; rotate_left; (focus (intro v hv; have x0 := (hv.cell (p := ⟨w.heap.size, 0, none⟩) R1.out.lt).trans C0.out; have x1 := (hv.cell (p := ⟨w.heap.size, 1, none⟩) R1.out.lt).trans C1.out; have x2 := (hv.cell (p := ⟨w.heap.size, 2, none⟩) R1.out.lt).trans C2.out; have x3 := (hv.cell (p := ⟨w.heap.size, 3, none⟩) R1.out.lt).trans C3.out; have x4 := (hv.cell (p := ⟨w.heap.size, 4, none⟩) R1.out.lt).trans C4.out; have x5 := (hv.cell (p := ⟨w.heap.size, 5, none⟩) R1.out.lt).trans C5.out; go_simp; rfl)); go_simp)
  (refine h_read 12 rfl (by kernel_rfl) (by kernel_rfl) (h_free rfl) ?_ ?_ ?_; rotate_left; (focus (intro v hv; go_simp; rfl)); go_simp)
  (refine h_read 13 rfl (by kernel_rfl) (by kernel_rfl) (h_free rfl) ?_ ?_ ?_; rotate_left; (focus (intro v hv; have x0 := (hv.cell (p := ⟨w.heap.size, 0, none⟩) R1.out.lt).trans C0.out; have x1 := (hv.cell (p := ⟨w.heap.size, 1, none⟩) R1.out.lt).trans C1.out; have x2 := (hv.cell (p := ⟨w.heap.size, 2, none⟩) R1.out.lt).trans C2.out; have x3 := (hv.cell (p := ⟨w.heap.size, 3, none⟩) R1.out.lt).trans C3.out; have x4 := (hv.cell (p := ⟨w.heap.size, 4, none⟩) R1.out.lt).trans C4.out; have x5 := (hv.cell (p := ⟨w.heap.size, 5, none⟩) R1.out.lt).trans C5.out; go_simp; rfl)); go_simp)
  (refine h_list 10 rfl (by kernel_rfl) ?_; intro K hK)
  refine bi5 rfl _ _ _ _ _ rfl i1 i2 i3 i4 i5 (by go_simp; first | done | rfl) (by go_simp; first | done | rfl) (by go_simp; first | done | rfl) (by go_simp; first | done | rfl) (by go_simp; first | done | rfl) I1.out I2.out I3.out I4.out I5.out ?_
  intro w2 hsl hb hz
  have SL := Lib.hid hsl
  have J2 := Lib.hid (Jwd.out.trans (hb.mono Jwd.out.size))
  clear hsl hb hz
  refine hK _ _ J2.out ?_
  go_simp
  (refine h_call 11 rfl (by kernel_rfl) (h_free rfl) 114 ?_ ?_ ?_; rotate_left; (focus (go_simp; rfl)))
  refine (lnumI none 0 0 [] _ 5 5 [i1, i2, i3, i4, i5] w2 rd_nil_ld (by omega) SL.out (by decide) (by decide)).mono ?_
  rw [List.nil_append, HD.out]
  rintro z w3 ⟨y, m, d, rfl, hrd, hm, hb⟩
  have R3 := Lib.hid hrd
  have J3 := Lib.hid (J2.out.trans (hb.mono J2.out.size))
  clear hrd hb
  refine ⟨_, rfl, J3.out, ?_⟩
  go_simp
  (refine h_call 14 rfl (by kernel_rfl) (h_free rfl) 139 ?_ ?_ ?_; rotate_left; (focus (go_simp; rfl)))
  refine (ptext y m d sp D w3 R3.out (by omega) (by omega)).mono ?_
  rw [HCH.out]
  rintro z w4 ⟨rfl, hbk, hb, -⟩
  have K4 := Lib.hid hbk
  have J4 := Lib.hid (J3.out.trans (hb.mono J3.out.size))
  clear hbk hb
  refine ⟨_, rfl, J4.out, ?_⟩
  go_simp
  (refine h_read 15 rfl (by kernel_rfl) (by kernel_rfl) (h_free rfl) ?_ ?_ ?_; rotate_left; (focus (intro v hv; go_simp; rfl)); go_simp)
  refine h_done (by kernel_rfl) ?_
  have he := P.enc_len sp.size (by omega)
  have hlen : C.length = m + ((enc sp.size).length + sp.size) := by
    rw [← HCH.out, List.length_append, List.length_append, R3.out.hlen]; rfl
  go_wp2_with fail
  go_ret
  exact ⟨_, _, _, rfl, K4.out.rd' _ hlen (by omega), by omega, B1.out.trans (J4.out.mono B1.out.size)⟩
set_option maxRecDepth 100000 in
set_option maxHeartbeats 16000000 in
theorem plsput (a0 : Option Addr) (m0 c0 : Nat) (S : List UInt8) (a : Option Addr) (n c : Nat) (L : List Hd) (w : World) (hr : Rd w a0 m0 c0 S) (hm0 : m0 ≤ 3000000) (h : Ls hdE w a n c L) (hn : n ≤ 100) (hnm : ∀ s ∈ L, s.sp.size ≤ 2000000) :
    Calls Try.prog 113 #[.slice a0 m0 c0, .slice a n c, .func (.func 115) #[] #[]] w fun x w' => ∃ y m d, x = .returned (.slice y m d) ∧ Fr w' w.heap.size (.slice y m d) (S ++ (enc n ++ L.flatMap codeH)) ∧ m ≤ 300000000 ∧ Below w.heap.size w w' := by
  have H := Lib.hid h
  have HL := Lib.hid h.hlen
  have hm := h.hmax
  have hle := h.hle
  have HSZ := Lib.hid hd_size
  have MZ := Lib.hid hd_zero
  have HB := Lib.hid (fun k => codeH_all (L.take k) (fun s hs => ⟨h.hfit s (List.mem_of_mem_take hs), hnm s (List.mem_of_mem_take hs)⟩))
  have HNM := Lib.hid hnm
  have he := P.enc_len n (by omega)
  obtain ⟨T, hT⟩ : ∃ T, S ++ enc n = T := ⟨_, rfl⟩
  obtain ⟨q, hq⟩ : ∃ q, m0 + (enc n).length = q := ⟨_, rfl⟩
  have hTq : T.length = q := by rw [← hT, List.length_append, hr.hlen]; exact hq
  have hqb : q ≤ 3000009 := by omega
  have HN := Lib.hid (pnum a0 m0 c0 (n : Int) S w hr (by omega) (by omega))
  rw [Int.toNat_natCast, hT, hq] at HN
  have HTQ := Lib.hid hTq
  rw [show S ++ (enc n ++ L.flatMap codeH) = T ++ L.flatMap codeH by rw [← hT]; simp]
  clear h hr hnm hT hTq he hq
  go_enter Try.func113, Try.ntmps113
  go_wp2_with (go_at_call 86; (with_reducible refine HN.out.mono ?_); rintro z w1 ⟨rfl, hbk, hb, -⟩; have F1 := Lib.hid (show Fr w1 w.heap.size (.slice (some ⟨w.heap.size, 0, none⟩) q q) T by have := hbk.fr (base := w.heap.size) (Nat.le_refl _) (by rw [HTQ.out]; omega); rw [HTQ.out] at this; exact this); have B1 := Lib.hid hb; clear hbk hb)
  go_loopw [7, 16] (fun v i wr => ∃ (k : Nat) (y : Option Addr) (m d : Nat), v = .slice y m d ∧ i = .int .i64 (k : Int) ∧ k ≤ n ∧ Hid (Fr wr w.heap.size (.slice y m d) (T ++ (L.take k).flatMap codeH)) ∧ Hid (Below w.heap.size w wr)) (fun _ i _ => n - (intOf i).toNat)
  case atStart => exact ⟨0, _, _, _, rfl, rfl, Nat.zero_le _, Lib.hid (by simpa using F1.out), B1⟩
  case round =>
    obtain ⟨k, y, m, d, rfl, rfl, hk, F, B⟩ := hrel
    have hbl := HB.out k
    have hlk : (L.take k).length ≤ 100 := by rw [List.length_take]; omega
    have hcur : (T ++ (L.take k).flatMap codeH).length ≤ 250000000 := by
      rw [List.length_append, HTQ.out]; have : (L.take k).length * 2000054 ≤ 100 * 2000054 := Nat.mul_le_mul_right _ hlk; omega
    by_cases hlt : k < n
    · obtain ⟨b, o, s, rfl, hx, hcell, hfs⟩ := H.out.at hdOk B.out k hlt
      have hmem : s ∈ L := by
        obtain ⟨h1, h2⟩ := List.getElem?_eq_some_iff.1 hx
        rw [← h2]; exact List.getElem_mem h1
      have HCD := Lib.hid (fun w => pholdcode s w hfs (HNM.out s hmem))
      have HST := Lib.hid (show T ++ (L.take (k + 1)).flatMap codeH = (T ++ (L.take k).flatMap codeH) ++ codeH s by rw [codeH_step L k s hx]; simp)
      obtain ⟨U, hU⟩ : ∃ U, T ++ (L.take k).flatMap codeH = U := ⟨_, rfl⟩
      rw [hU] at F hcur HST
      obtain ⟨i1, i2, i3, i4, i5, sp⟩ := s
      have XC := Lib.hid hcell
      have HUB := Lib.hid hcur
      have g1 : (0 : Int) ≤ (k : Int) := by omega
      have g2 : (k : Int) < (n : Int) := by omega
      clear hx hcell hfs hmem hU hbl hlk hcur
      go_wp2_with (first
        | ((with_reducible refine load_cells (o := ⟨some 19, _, _, _, _, _⟩) rfl _ _ rfl b (o + k * 6) ?_ [.int .i64 i1, .int .i64 i2, .int .i64 i3, .int .i64 i4, .int .i64 i5, .string sp] _ XC.out Try.underlying52 rfl ?_ ?_); (focus go_simp); (focus (exact HSZ.out)))
        | ((with_reducible refine alloc_row (o := ⟨some 9, _, _, _, _, _⟩) rfl _ rfl _ MZ.out ?_); intro w5 hr hb hz; have X5 := Lib.hid hr; have F5 := Lib.hid (F.out.kept hb); have NO := Lib.hid (show (Value.slice y m d).ownBlock ≠ some wr.heap.size from fun e => Nat.lt_irrefl _ (World.ownsRow.lt F.out _ e).2); have B5 := Lib.hid (B.out.trans (hb.mono B.out.size)); clear hr hb hz)
        | ((with_reducible refine store_row (o := ⟨none, _, _, _, _, _⟩) rfl _ (.tmp 9) _ rfl wr.heap.size [.int .i64 i1, .int .i64 i2, .int .i64 i3, .int .i64 i4, .int .i64 i5, .string sp] ?_ ?_ 52 _ X5.out ?_ ?_ ?_ ?_); (focus go_simp); (focus (first | (go_simp; done) | (go_simp; rfl))); (focus (exact HSZ.out)); (focus rfl); (focus (exact hd_one ⟨i1, i2, i3, i4, i5, sp⟩)); intro w6 hr hu; have X6 := Lib.hid hr; have F6 := Lib.hid (fr_upd F5.out hu NO.out); have B6 := Lib.hid (B5.out.trans (hu.below B.out.size)); clear hr hu)
        | ((with_reducible refine load_row (o := ⟨some 22, _, _, _, _, _⟩) rfl _ _ rfl wr.heap.size ?_ _ [.int .i64 i1, .int .i64 i2, .int .i64 i3, .int .i64 i4, .int .i64 i5, .string sp] _ X6.out Try.underlying52 rfl ?_ ?_); (focus go_simp); (focus (exact HSZ.out)))
        | (go_at_call 115; (with_reducible refine (HCD.out w6).mono ?_); rintro z w7 ⟨y7, m7, d7, rfl, hrd, hm7, hb⟩; have R7 := Lib.hid hrd; have HM7 := Lib.hid hm7; have F7 := Lib.hid (F6.out.kept hb); have B7 := Lib.hid (B6.out.trans (hb.mono B6.out.size)); clear hrd hb hm7)
        | ((with_reducible refine append_rd (o := ⟨some 24, _, _, _, _, _⟩) rfl _ _ rfl w.heap.size _ U ?_ F7.out y7 m7 d7 _ ?_ R7.out ?_ B7.out.size ?_); (focus (first | (go_simp; done) | (go_simp; rfl))); (focus (first | (go_simp; done) | (go_simp; rfl))); (focus (have := HUB.out; have := HM7.out; omega)); intro v8 w8 hN hb2 _; rw [← HST.out] at hN; obtain ⟨q8, hq8⟩ : ∃ q, (T ++ (L.take (k + 1)).flatMap codeH).length = q := ⟨_, rfl⟩; obtain ⟨y8, d8, rfl, -⟩ := hN.form' q8 hq8; have F8 := Lib.hid hN; have B8 := Lib.hid (B7.out.trans hb2); clear hN hb2 hq8))
      go_roundw
      case rel => exact ⟨k + 1, _, _, _, rfl, vint (by omega), by omega, F8, B8⟩
      case measure => simp [intOf]; omega
    · obtain rfl : n = k := by omega
      have ht : L.take n = L := List.take_of_length_le (by rw [HL.out]; exact Nat.le_refl _)
      rw [ht] at F hcur
      have hmb : m ≤ 250000000 := by
        obtain ⟨y', d', hv, hrd⟩ := F.out.form' _ rfl
        have e : m = (T ++ L.flatMap codeH).length := by injection hv
        rw [e]; exact hcur
      clear ht hbl hlk hcur
      go_wp2_with fail
      go_ret
      exact ⟨_, _, _, rfl, F.out, by omega, B.out⟩
set_option maxRecDepth 100000 in
set_option maxHeartbeats 16000000 in
theorem pput (a0 : Option Addr) (m0 c0 : Nat) (S : List UInt8) (q u h' nx : Int) (a : Option Addr) (n c : Nat) (L : List Hd) (w : World) (hr : Rd w a0 m0 c0 S) (hm0 : m0 ≤ 2000000) (h : Ls hdE w a n c L) (hn : n ≤ 100) (hnm : ∀ s ∈ L, s.sp.size ≤ 2000000) (iq : SI64 q) (iu : SI64 u) (ih : SI64 h') (ix : SI64 nx) :
    Calls Try.prog 54 #[.slice a0 m0 c0, .agg (ldC q u h' nx a n c).toArray] w fun x w' => ∃ v, x = .returned v ∧ Fr w' w.heap.size v (S ++ putLd ⟨q, u, h', nx, L⟩) ∧ Below w.heap.size w w' := by
  have H := Lib.hid h
  have HR := Lib.hid hr
  have HNM := Lib.hid hnm
  have HL := Lib.hid h.hlen
  have I1 := Lib.hid iq
  have I2 := Lib.hid iu
  have I3 := Lib.hid ih
  have I4 := Lib.hid ix
  obtain ⟨D, hD⟩ : ∃ D, S ++ codeI [q, u, h', nx] = D := ⟨_, rfl⟩
  have HD := Lib.hid hD
  rw [show S ++ putLd ⟨q, u, h', nx, L⟩ = D ++ (enc n ++ L.flatMap codeH) by rw [← hD]; unfold putLd; rw [h.hlen]; simp]
  clear h hr hnm iq iu ih ix hD
  go_enter Try.func54, Try.ntmps54
  go_wp2_with (first
    | ((with_reducible refine box_row (o := ⟨some 3, _, _, _, _, _⟩) rfl _ _ rfl (ldC q u h' nx a n c) rfl ?_); intro w1 hr hb hz; have R1 := Lib.hid hr; have B1 := Lib.hid hb; obtain ⟨c0', c1, c2, c3, c4⟩ := hr.l5; have C0 := Lib.hid c0'; have C1 := Lib.hid c1; have C2 := Lib.hid c2; have C3 := Lib.hid c3; have C4 := Lib.hid c4; clear hr hb hz c0' c1 c2 c3 c4))
  refine region_h (fun v => Below w1.heap.size w1 v) (by kernel_rfl) (by kernel_rfl) (Below.refl _ _).drew ?_
  obtain ⟨wd, hwd⟩ : ∃ wd, w1.drew = wd := ⟨_, rfl⟩
  have Jwd : Hid (Below w1.heap.size w1 wd) := Lib.hid (by rw [← hwd]; exact (Below.refl _ _).drew)
  rw [hwd]
  clear hwd
  (refine h_read 0 rfl (by kernel_rfl) (by kernel_rfl) (h_free rfl) ?_ ?_ ?_; rotate_left; (focus (intro v hv; go_simp; rfl)); go_simp)
  (refine h_read 1 rfl (by kernel_rfl) (by kernel_rfl) (h_free rfl) ?_ ?_ ?_; rotate_left; (focus (intro v hv; go_simp; rfl)); go_simp)
  (refine h_read 2 rfl (by kernel_rfl) (by kernel_rfl) (h_free rfl) ?_ ?_ ?_; rotate_left; (focus (intro v hv; have x0 := (hv.cell (p := ⟨w.heap.size, 0, none⟩) R1.out.lt).trans C0.out; have x1 := (hv.cell (p := ⟨w.heap.size, 1, none⟩) R1.out.lt).trans C1.out; have x2 := (hv.cell (p := ⟨w.heap.size, 2, none⟩) R1.out.lt).trans C2.out; have x3 := (hv.cell (p := ⟨w.heap.size, 3, none⟩) R1.out.lt).trans C3.out; have x4 := (hv.cell (p := ⟨w.heap.size, 4, none⟩) R1.out.lt).trans C4.out; go_simp; rfl)); go_simp)
  (refine h_read 3 rfl (by kernel_rfl) (by kernel_rfl) (h_free rfl) ?_ ?_ ?_; rotate_left; (focus (intro v hv; go_simp; rfl)); go_simp)
  (refine h_read 4 rfl (by kernel_rfl) (by kernel_rfl) (h_free rfl) ?_ ?_ ?_; rotate_left; (focus (intro v hv; have x0 := (hv.cell (p := ⟨w.heap.size, 0, none⟩) R1.out.lt).trans C0.out; have x1 := (hv.cell (p := ⟨w.heap.size, 1, none⟩) R1.out.lt).trans C1.out; have x2 := (hv.cell (p := ⟨w.heap.size, 2, none⟩) R1.out.lt).trans C2.out; have x3 := (hv.cell (p := ⟨w.heap.size, 3, none⟩) R1.out.lt).trans C3.out; have x4 := (hv.cell (p := ⟨w.heap.size, 4, none⟩) R1.out.lt).trans C4.out; go_simp; rfl)); go_simp)
  (refine h_read 5 rfl (by kernel_rfl) (by kernel_rfl) (h_free rfl) ?_ ?_ ?_; rotate_left; (focus (intro v hv; go_simp; rfl)); go_simp)
  (refine h_read 6 rfl (by kernel_rfl) (by kernel_rfl) (h_free rfl) ?_ ?_ ?_; rotate_left; (focus (intro v hv; have x0 := (hv.cell (p := ⟨w.heap.size, 0, none⟩) R1.out.lt).trans C0.out; have x1 := (hv.cell (p := ⟨w.heap.size, 1, none⟩) R1.out.lt).trans C1.out; have x2 := (hv.cell (p := ⟨w.heap.size, 2, none⟩) R1.out.lt).trans C2.out; have x3 := (hv.cell (p := ⟨w.heap.size, 3, none⟩) R1.out.lt).trans C3.out; have x4 := (hv.cell (p := ⟨w.heap.size, 4, none⟩) R1.out.lt).trans C4.out; go_simp; rfl)); go_simp)
  (refine h_read 7 rfl (by kernel_rfl) (by kernel_rfl) (h_free rfl) ?_ ?_ ?_; rotate_left; (focus (intro v hv; go_simp; rfl)); go_simp)
  (refine h_read 8 rfl (by kernel_rfl) (by kernel_rfl) (h_free rfl) ?_ ?_ ?_; rotate_left; (focus (intro v hv; have x0 := (hv.cell (p := ⟨w.heap.size, 0, none⟩) R1.out.lt).trans C0.out; have x1 := (hv.cell (p := ⟨w.heap.size, 1, none⟩) R1.out.lt).trans C1.out; have x2 := (hv.cell (p := ⟨w.heap.size, 2, none⟩) R1.out.lt).trans C2.out; have x3 := (hv.cell (p := ⟨w.heap.size, 3, none⟩) R1.out.lt).trans C3.out; have x4 := (hv.cell (p := ⟨w.heap.size, 4, none⟩) R1.out.lt).trans C4.out; go_simp; rfl)); go_simp)
  (refine h_read 11 rfl (by kernel_rfl) (by kernel_rfl) (h_free rfl) ?_ ?_ ?_; rotate_left; (focus (intro v hv; go_simp; rfl)); go_simp)
  (refine h_read 12 rfl (by kernel_rfl) (by kernel_rfl) (h_free rfl) ?_ ?_ ?_; rotate_left; (focus (intro v hv; have x0 := (hv.cell (p := ⟨w.heap.size, 0, none⟩) R1.out.lt).trans C0.out; have x1 := (hv.cell (p := ⟨w.heap.size, 1, none⟩) R1.out.lt).trans C1.out; have x2 := (hv.cell (p := ⟨w.heap.size, 2, none⟩) R1.out.lt).trans C2.out; have x3 := (hv.cell (p := ⟨w.heap.size, 3, none⟩) R1.out.lt).trans C3.out; have x4 := (hv.cell (p := ⟨w.heap.size, 4, none⟩) R1.out.lt).trans C4.out; go_simp; rfl)); go_simp)
  (refine h_list 9 rfl (by kernel_rfl) ?_; intro K hK)
  refine bi4 rfl _ _ _ _ rfl q u h' nx (by go_simp; first | done | rfl) (by go_simp; first | done | rfl) (by go_simp; first | done | rfl) (by go_simp; first | done | rfl) I1.out I2.out I3.out I4.out ?_
  intro w2 hsl hb hz
  have SL := Lib.hid hsl
  have J2 := Lib.hid (Jwd.out.trans (hb.mono Jwd.out.size))
  clear hsl hb hz
  refine hK _ _ J2.out ?_
  go_simp
  (refine h_call 10 rfl (by kernel_rfl) (h_free rfl) 114 ?_ ?_ ?_; rotate_left; (focus (go_simp; rfl)))
  refine (lnumI a0 m0 c0 S _ 4 4 [q, u, h', nx] w2 (HR.out.mono (B1.out.trans (J2.out.mono B1.out.size))) (by omega) SL.out (by decide) (by decide)).mono ?_
  rw [HD.out]
  rintro z w3 ⟨y3, m3, d3, rfl, hrd, hm3, hb⟩
  have R3 := Lib.hid hrd
  have J3 := Lib.hid (J2.out.trans (hb.mono J2.out.size))
  clear hrd hb
  refine ⟨_, rfl, J3.out, ?_⟩
  go_simp
  (refine h_call 13 rfl (by kernel_rfl) (h_free rfl) 113 ?_ ?_ ?_; rotate_left; (focus (go_simp; rfl)))
  refine (plsput y3 m3 d3 D a n c L w3 R3.out (by omega) (H.out.mono hdOk (B1.out.trans (J3.out.mono B1.out.size))) hn HNM.out).mono ?_
  rintro z w4 ⟨y4, m4, d4, rfl, hf, hm4, hb⟩
  have F4 := Lib.hid (hf.base J3.out.size)
  have J4 := Lib.hid (J3.out.trans (hb.mono J3.out.size))
  clear hf hb
  refine ⟨_, rfl, J4.out, ?_⟩
  go_simp
  (refine h_read 14 rfl (by kernel_rfl) (by kernel_rfl) (h_free rfl) ?_ ?_ ?_; rotate_left; (focus (intro v hv; go_simp; rfl)); go_simp)
  refine h_done (by kernel_rfl) ?_
  go_wp2_with fail
  go_ret
  exact ⟨_, rfl, F4.out.base B1.out.size, B1.out.trans (J4.out.mono B1.out.size)⟩
end Go.Proofs.Ytiopcojkdglapaa.W
