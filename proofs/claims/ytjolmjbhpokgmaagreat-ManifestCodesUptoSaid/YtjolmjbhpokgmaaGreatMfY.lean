/- LAYER 20 (manifest): pieceCode, lists.Put of pieces, PutPieces of the program. LAYER 20 (manifest): snapCode, lists.Put of snaps, Put of the program. LAYER 20 (manifest): the reference's PutPieces, Put. -/
import Derived.Test.YtjolmjbhpokgmaaGreatMfPp
import Derived.Test.YtjolmjbhpokgmaaGreatMfG
import Derived.Test.YtjolmjbhpokgmaaGreatPackW
import Derived.Test.YtjolmjbhpokgmaaGreatTail
import Derived.Test.YtjolmjbhpokgmaaGreatMfA
set_option linter.unusedSimpArgs false
set_option linter.unusedVariables false
namespace Go.Proofs.YtjolmjbhpokgmaaGreat.W
open Go Go.ChangeShapes Go.WideShapes Go.ChangeAt Go.RowKit
open Go.Proofs.YtjolmjbhpokgmaaGreat.P (enc dec)
open Go.Proofs.YtjolmjbhpokgmaaGreat.S

end Go.Proofs.YtjolmjbhpokgmaaGreat.W

namespace Go.Proofs.YtjolmjbhpokgmaaGreat.W
open Go Go.ChangeShapes Go.WideShapes Go.ChangeAt Go.RowKit
open Go.Proofs.YtjolmjbhpokgmaaGreat.P (enc dec)
open Go.Proofs.YtjolmjbhpokgmaaGreat.S

/-- a snapshot's bytes -/
def codeS (s : Sn) : List UInt8 := ((((enc s.sp.size ++ s.sp.data.toList) ++ (enc s.nm.size ++ s.nm.data.toList)) ++ enc s.by'.toNat) ++ enc s.ti.toNat) ++ enc s.ke.toNat ++ (enc s.P.length ++ s.P.flatMap codeP)
def codeX (x : SnX) : List UInt8 := codeS x.s
/-- not too long -/
structure SnX.short (x : SnX) : Prop where
  sp : x.s.sp.size ≤ 2000000
  nm : x.s.nm.size ≤ 2000000
  n : x.s.P.length ≤ 100
  P : ∀ p ∈ x.s.P, p.sum.size ≤ 2000000
theorem codeX_len {w : World} {x : SnX} (h : x.fit w) (hn : x.short) : (codeX x).length ≤ 300000000 := by
  have h1 := P.enc_len x.s.sp.size (by have := hn.sp; omega)
  have h2 := P.enc_len x.s.nm.size (by have := hn.nm; omega)
  have h3 := P.enc_len x.s.by'.toNat (by have := h.by'.2; omega)
  have h4 := P.enc_len x.s.ti.toNat (by have := h.ti.2; omega)
  have h5 := P.enc_len x.s.ke.toNat (by have := h.ke.2; omega)
  have h6 := P.enc_len x.s.P.length (by have := hn.n; omega)
  have h7 := codeP_all x.s.P (fun p hp => ⟨h.P.hfit p hp, hn.P p hp⟩)
  have h8 : x.s.P.length * 2000054 ≤ 100 * 2000054 := Nat.mul_le_mul_right _ hn.n
  have e1 : x.s.sp.data.toList.length = x.s.sp.size := Array.length_toList
  have e2 : x.s.nm.data.toList.length = x.s.nm.size := Array.length_toList
  have i1 := hn.sp
  have i2 := hn.nm
  unfold codeX codeS
  simp only [List.length_append, e1, e2]
  omega
theorem codeX_all : ∀ (L : List SnX), (∀ x ∈ L, (∃ w, x.fit w) ∧ x.short) → (L.flatMap codeX).length ≤ L.length * 300000000
  | [], _ => by simp
  | s :: L, h => by
    obtain ⟨⟨w, h0⟩, hs⟩ := h s (by simp)
    have h1 := codeX_len h0 hs
    have h2 := codeX_all L (fun x hx => h x (by simp [hx]))
    rw [List.flatMap_cons, List.length_append, List.length_cons]; omega
theorem codeX_step (L : List SnX) (k : Nat) (s : SnX) (h : L[k]? = some s) : (L.take (k + 1)).flatMap codeX = (L.take k).flatMap codeX ++ codeX s := by
  obtain ⟨h1, h2⟩ := List.getElem?_eq_some_iff.1 h
  rw [List.take_succ_eq_append_getElem h1, List.flatMap_append, h2]; simp
set_option maxRecDepth 100000 in
set_option maxHeartbeats 8000000 in
theorem psnapcode (x : SnX) (w : World) (h : x.fit w) (hn : x.short) :
    Calls Tryz.prog 43 #[.agg x.cells.toArray] w fun z w' => ∃ y m d, z = .returned (.slice y m d) ∧ Rd w' y m d (codeX x) ∧ m ≤ 300000000 ∧ Below w.heap.size w w' := by
  have HL := Lib.hid (codeX_len h hn)
  obtain ⟨⟨sp, nm, by1, ti, ke, PL⟩, pa, pm, pc⟩ := x
  obtain ⟨-, -, i1, i2, i3, hP⟩ := h
  obtain ⟨n1, n2, n3, n4⟩ := hn
  dsimp only at i1 i2 i3 hP n1 n2 n3 n4
  have I1 := Lib.hid i1
  have I2 := Lib.hid i2
  have I3 := Lib.hid i3
  have e1 : sp.data.toList.length = sp.size := Array.length_toList
  have e2 : nm.data.toList.length = nm.size := Array.length_toList
  have l1 := P.enc_len sp.size (by omega)
  have l2 := P.enc_len nm.size (by omega)
  have l3 := P.enc_len by1.toNat (by have := i1.2; omega)
  have l4 := P.enc_len ti.toNat (by have := i2.2; omega)
  have l5 := P.enc_len ke.toNat (by have := i3.2; omega)
  have hpm := hP.hlen
  obtain ⟨T1, hT1⟩ : ∃ T, enc sp.size ++ sp.data.toList = T := ⟨_, rfl⟩
  obtain ⟨T2, hT2⟩ : ∃ T, T1 ++ (enc nm.size ++ nm.data.toList) = T := ⟨_, rfl⟩
  obtain ⟨T3, hT3⟩ : ∃ T, T2 ++ enc by1.toNat = T := ⟨_, rfl⟩
  obtain ⟨T4, hT4⟩ : ∃ T, T3 ++ enc ti.toNat = T := ⟨_, rfl⟩
  obtain ⟨T5, hT5⟩ : ∃ T, T4 ++ enc ke.toNat = T := ⟨_, rfl⟩
  obtain ⟨q1, hq1⟩ : ∃ q, T1.length = q := ⟨_, rfl⟩
  obtain ⟨q2, hq2⟩ : ∃ q, T2.length = q := ⟨_, rfl⟩
  obtain ⟨q3, hq3⟩ : ∃ q, T3.length = q := ⟨_, rfl⟩
  obtain ⟨q4, hq4⟩ : ∃ q, T4.length = q := ⟨_, rfl⟩
  obtain ⟨q5, hq5⟩ : ∃ q, T5.length = q := ⟨_, rfl⟩
  have b1 : q1 ≤ 2000009 := by rw [← hq1, ← hT1, List.length_append, e1]; omega
  have b2 : q2 ≤ 4000018 := by rw [← hq2, ← hT2, List.length_append, List.length_append, e2, hq1]; omega
  have b3 : q3 ≤ 4000028 := by rw [← hq3, ← hT3, List.length_append, hq2]; omega
  have b4 : q4 ≤ 4000038 := by rw [← hq4, ← hT4, List.length_append, hq3]; omega
  have b5 : q5 ≤ 4000048 := by rw [← hq5, ← hT5, List.length_append, hq4]; omega
  obtain ⟨C, hC⟩ : ∃ C, codeX ⟨⟨sp, nm, by1, ti, ke, PL⟩, pa, pm, pc⟩ = C := ⟨_, rfl⟩
  rw [hC] at HL ⊢
  have HC := Lib.hid (show T5 ++ (enc pm ++ PL.flatMap codeP) = C by rw [← hC, ← hT5, ← hT4, ← hT3, ← hT2, ← hT1, ← hpm]; unfold codeX codeS; rfl)
  have HT1 := Lib.hid (show [] ++ (enc sp.size ++ sp.data.toList) = T1 from hT1)
  have HT2 := Lib.hid hT2
  have HT3 := Lib.hid hT3
  have HT4 := Lib.hid hT4
  have HT5 := Lib.hid hT5
  have Q1 := Lib.hid hq1
  have Q2 := Lib.hid hq2
  have Q3 := Lib.hid hq3
  have Q4 := Lib.hid hq4
  have Q5 := Lib.hid hq5
  have HPP := Lib.hid (fun y d w' (hw : Below w.heap.size w w') (hr : Rd w' y q5 d T5) => pputpieces y q5 d T5 pa pm pc PL w' hr (by omega) (hP.mono pcOk hw) (by omega) n4)
  rw [HC.out] at HPP
  clear hP hC hT1 hT2 hT3 hT4 hT5 hq1 hq2 hq3 hq4 hq5 i1 i2 i3 n3 n4 hpm e1 e2 l1 l2 l3 l4 l5
  go_enter Tryz.func43, Tryz.ntmps43
  go_wp2_with (first
    | ((with_reducible refine box_row (o := ⟨some 1, _, _, _, _, _⟩) rfl _ _ rfl (snC sp nm by1 ti ke pa pm pc) rfl ?_); intro w1 hr1 hb1 hz1; have R1 := Lib.hid hr1; obtain ⟨c0, c1, c2, c3, c4, c5⟩ := hr1.h6s; have C0 := Lib.hid c0; have C1 := Lib.hid c1; have C2 := Lib.hid c2; have C3 := Lib.hid c3; have C4 := Lib.hid c4; have C5 := Lib.hid c5; have B1 := Lib.hid hb1; clear hr1 hb1 hz1 c0 c1 c2 c3 c4 c5))
  refine region_h (fun v => Below w1.heap.size w1 v) (by kernel_rfl) (by kernel_rfl) (Below.refl _ _).drew ?_
  obtain ⟨w10, hwd⟩ : ∃ wd, w1.drew = wd := ⟨_, rfl⟩
  have J10 : Hid (Below w1.heap.size w1 w10) := Lib.hid (by rw [← hwd]; exact (Below.refl _ _).drew)
  rw [hwd]
  clear hwd
  (refine h_read 0 rfl (by kernel_rfl) (by kernel_rfl) (h_free rfl) ?_ ?_ ?_; rotate_left; (focus (intro v hv; go_simp; rfl)); go_simp)
  (refine h_read 1 rfl (by kernel_rfl) (by kernel_rfl) (h_free rfl) ?_ ?_ ?_; rotate_left; (focus (intro v hv; have x0 := (hv.cell (p := ⟨w.heap.size, 0, none⟩) R1.out.lt).trans C0.out; have x1 := (hv.cell (p := ⟨w.heap.size, 1, none⟩) R1.out.lt).trans C1.out; have x2 := (hv.cell (p := ⟨w.heap.size, 2, none⟩) R1.out.lt).trans C2.out; have x3 := (hv.cell (p := ⟨w.heap.size, 3, none⟩) R1.out.lt).trans C3.out; have x4 := (hv.cell (p := ⟨w.heap.size, 4, none⟩) R1.out.lt).trans C4.out; have x5 := (hv.cell (p := ⟨w.heap.size, 5, none⟩) R1.out.lt).trans C5.out; go_simp; rfl)); go_simp)
  (refine h_read 3 rfl (by kernel_rfl) (by kernel_rfl) (h_free rfl) ?_ ?_ ?_; rotate_left; (focus (intro v hv; go_simp; rfl)); go_simp)
  (refine h_read 4 rfl (by kernel_rfl) (by kernel_rfl) (h_free rfl) ?_ ?_ ?_; rotate_left; (focus (intro v hv; have x0 := (hv.cell (p := ⟨w.heap.size, 0, none⟩) R1.out.lt).trans C0.out; have x1 := (hv.cell (p := ⟨w.heap.size, 1, none⟩) R1.out.lt).trans C1.out; have x2 := (hv.cell (p := ⟨w.heap.size, 2, none⟩) R1.out.lt).trans C2.out; have x3 := (hv.cell (p := ⟨w.heap.size, 3, none⟩) R1.out.lt).trans C3.out; have x4 := (hv.cell (p := ⟨w.heap.size, 4, none⟩) R1.out.lt).trans C4.out; have x5 := (hv.cell (p := ⟨w.heap.size, 5, none⟩) R1.out.lt).trans C5.out; go_simp; rfl)); go_simp)
  (refine h_call 2 rfl (by kernel_rfl) (h_free rfl) 68 ?_ ?_ ?_; rotate_left; (focus (go_simp; rfl)))
  refine (ptextF none 0 0 sp [] w10 rd_nil_mf (by omega) (by omega) T1 HT1.out q1 Q1.out).mono ?_
  rintro z w11 ⟨y11, d11, rfl, hrd, hb⟩
  have K11 := Lib.hid hrd
  have J11 := Lib.hid (J10.out.trans (hb.mono J10.out.size))
  clear hrd hb
  refine ⟨_, rfl, J11.out, ?_⟩
  go_simp
  (refine h_call 5 rfl (by kernel_rfl) (h_free rfl) 68 ?_ ?_ ?_; rotate_left; (focus (go_simp; rfl)))
  refine (ptextF y11 q1 d11 nm T1 w11 K11.out (by omega) (by omega) T2 HT2.out q2 Q2.out).mono ?_
  rintro z w12 ⟨y12, d12, rfl, hrd, hb⟩
  have K12 := Lib.hid hrd
  have J12 := Lib.hid (J11.out.trans (hb.mono J11.out.size))
  clear hrd hb
  refine ⟨_, rfl, J12.out, ?_⟩
  go_simp
  (refine h_read 6 rfl (by kernel_rfl) (by kernel_rfl) (h_free rfl) ?_ ?_ ?_; rotate_left; (focus (intro v hv; go_simp; rfl)); go_simp)
  refine h_done (by kernel_rfl) ?_
  have BA := Lib.hid (B1.out.trans (J12.out.mono B1.out.size))
  have R2 := Lib.hid (R1.out.below J12.out R1.out.lt)
  clear C0 C1 C2 C3 C4 C5
  obtain ⟨c0, c1, c2, c3, c4, c5⟩ := R2.out.h6s
  have C0 := Lib.hid c0
  have C1 := Lib.hid c1
  have C2 := Lib.hid c2
  have C3 := Lib.hid c3
  have C4 := Lib.hid c4
  have C5 := Lib.hid c5
  clear c0 c1 c2 c3 c4 c5
  go_wp2_with fail
  refine region_h (fun v => Below w12.heap.size w12 v) (by kernel_rfl) (by kernel_rfl) (Below.refl _ _).drew ?_
  obtain ⟨w20, hwd⟩ : ∃ wd, w12.drew = wd := ⟨_, rfl⟩
  have J20 : Hid (Below w12.heap.size w12 w20) := Lib.hid (by rw [← hwd]; exact (Below.refl _ _).drew)
  rw [hwd]
  clear hwd
  (refine h_read 0 rfl (by kernel_rfl) (by kernel_rfl) (h_free rfl) ?_ ?_ ?_; rotate_left; (focus (intro v hv; go_simp; rfl)); go_simp)
  (refine h_read 1 rfl (by kernel_rfl) (by kernel_rfl) (h_free rfl) ?_ ?_ ?_; rotate_left; (focus (intro v hv; go_simp; rfl)); go_simp)
  (refine h_read 2 rfl (by kernel_rfl) (by kernel_rfl) (h_free rfl) ?_ ?_ ?_; rotate_left; (focus (intro v hv; have x0 := (hv.cell (p := ⟨w.heap.size, 0, none⟩) R2.out.lt).trans C0.out; have x1 := (hv.cell (p := ⟨w.heap.size, 1, none⟩) R2.out.lt).trans C1.out; have x2 := (hv.cell (p := ⟨w.heap.size, 2, none⟩) R2.out.lt).trans C2.out; have x3 := (hv.cell (p := ⟨w.heap.size, 3, none⟩) R2.out.lt).trans C3.out; have x4 := (hv.cell (p := ⟨w.heap.size, 4, none⟩) R2.out.lt).trans C4.out; have x5 := (hv.cell (p := ⟨w.heap.size, 5, none⟩) R2.out.lt).trans C5.out; go_simp; rfl)); go_simp)
  (refine h_read 4 rfl (by kernel_rfl) (by kernel_rfl) (h_free rfl) ?_ ?_ ?_; rotate_left; (focus (intro v hv; go_simp; rfl)); go_simp)
  (refine h_read 5 rfl (by kernel_rfl) (by kernel_rfl) (h_free rfl) ?_ ?_ ?_; rotate_left; (focus (intro v hv; have x0 := (hv.cell (p := ⟨w.heap.size, 0, none⟩) R2.out.lt).trans C0.out; have x1 := (hv.cell (p := ⟨w.heap.size, 1, none⟩) R2.out.lt).trans C1.out; have x2 := (hv.cell (p := ⟨w.heap.size, 2, none⟩) R2.out.lt).trans C2.out; have x3 := (hv.cell (p := ⟨w.heap.size, 3, none⟩) R2.out.lt).trans C3.out; have x4 := (hv.cell (p := ⟨w.heap.size, 4, none⟩) R2.out.lt).trans C4.out; have x5 := (hv.cell (p := ⟨w.heap.size, 5, none⟩) R2.out.lt).trans C5.out; go_simp; rfl)); go_simp)
  (refine h_read 7 rfl (by kernel_rfl) (by kernel_rfl) (h_free rfl) ?_ ?_ ?_; rotate_left; (focus (intro v hv; go_simp; rfl)); go_simp)
  (refine h_read 8 rfl (by kernel_rfl) (by kernel_rfl) (h_free rfl) ?_ ?_ ?_; rotate_left; (focus (intro v hv; have x0 := (hv.cell (p := ⟨w.heap.size, 0, none⟩) R2.out.lt).trans C0.out; have x1 := (hv.cell (p := ⟨w.heap.size, 1, none⟩) R2.out.lt).trans C1.out; have x2 := (hv.cell (p := ⟨w.heap.size, 2, none⟩) R2.out.lt).trans C2.out; have x3 := (hv.cell (p := ⟨w.heap.size, 3, none⟩) R2.out.lt).trans C3.out; have x4 := (hv.cell (p := ⟨w.heap.size, 4, none⟩) R2.out.lt).trans C4.out; have x5 := (hv.cell (p := ⟨w.heap.size, 5, none⟩) R2.out.lt).trans C5.out; go_simp; rfl)); go_simp)
  (refine h_call 3 rfl (by kernel_rfl) (h_free rfl) 67 ?_ ?_ ?_; rotate_left; (focus (go_simp; rfl)))
  refine (pnumF y12 q2 d12 by1 T2 w20 (K12.out.mono J20.out) I1.out.2 (by omega) T3 HT3.out q3 Q3.out).mono ?_
  rintro z w21 ⟨y21, d21, rfl, hrd, hb⟩
  have K21 := Lib.hid hrd
  have J21 := Lib.hid (J20.out.trans (hb.mono J20.out.size))
  clear hrd hb
  refine ⟨_, rfl, J21.out, ?_⟩
  go_simp
  (refine h_call 6 rfl (by kernel_rfl) (h_free rfl) 67 ?_ ?_ ?_; rotate_left; (focus (go_simp; rfl)))
  refine (pnumF y21 q3 d21 ti T3 w21 K21.out I2.out.2 (by omega) T4 HT4.out q4 Q4.out).mono ?_
  rintro z w22 ⟨y22, d22, rfl, hrd, hb⟩
  have K22 := Lib.hid hrd
  have J22 := Lib.hid (J21.out.trans (hb.mono J21.out.size))
  clear hrd hb
  refine ⟨_, rfl, J22.out, ?_⟩
  go_simp
  (refine h_call 9 rfl (by kernel_rfl) (h_free rfl) 67 ?_ ?_ ?_; rotate_left; (focus (go_simp; rfl)))
  refine (pnumF y22 q4 d22 ke T4 w22 K22.out I3.out.2 (by omega) T5 HT5.out q5 Q5.out).mono ?_
  rintro z w23 ⟨y23, d23, rfl, hrd, hb⟩
  have K23 := Lib.hid hrd
  have J23 := Lib.hid (J22.out.trans (hb.mono J22.out.size))
  clear hrd hb
  refine ⟨_, rfl, J23.out, ?_⟩
  go_simp
  (refine h_read 10 rfl (by kernel_rfl) (by kernel_rfl) (h_free rfl) ?_ ?_ ?_; rotate_left; (focus (intro v hv; go_simp; rfl)); go_simp)
  refine h_done (by kernel_rfl) ?_
  have BB := Lib.hid (BA.out.trans (J23.out.mono BA.out.size))
  have R3 := Lib.hid (R2.out.below J23.out R2.out.lt)
  clear C0 C1 C2 C3 C4 C5
  obtain ⟨c0, c1, c2, c3, c4, c5⟩ := R3.out.h6s
  go_wp2_with (first
    | (go_at_call 21; (with_reducible refine (HPP.out _ _ w23 BB.out K23.out).mono ?_); rintro x w30 ⟨y30, m30, d30, rfl, hrd, hm, hb⟩; have R30 := Lib.hid hrd; have M30 := Lib.hid hm; have B30 := Lib.hid (BB.out.trans (hb.mono BB.out.size)); clear hrd hm hb))
  go_ret
  exact ⟨_, _, _, rfl, R30.out, M30.out, B30.out⟩
set_option maxRecDepth 100000 in
set_option maxHeartbeats 16000000 in
theorem plsputs (a0 : Option Addr) (m0 c0 : Nat) (S : List UInt8) (a : Option Addr) (n c : Nat) (L : List SnX) (w : World) (hr : Rd w a0 m0 c0 S) (hm0 : m0 ≤ 10000000) (h : Ls snE w a n c L) (hn : n ≤ 30) (hnm : ∀ x ∈ L, x.short) :
    Calls Tryz.prog 42 #[.slice a0 m0 c0, .slice a n c, .func (.func 43) #[] #[]] w fun x w' => ∃ y m d, x = .returned (.slice y m d) ∧ Rd w' y m d (S ++ (enc n ++ L.flatMap codeX)) ∧ m ≤ 30000000000 ∧ Below w.heap.size w w' := by
  have H := Lib.hid h
  have HL := Lib.hid h.hlen
  have hm := h.hmax
  have hle := h.hle
  have HSZ := Lib.hid sn_size
  have MZ := Lib.hid sn_zero
  have HB := Lib.hid (fun k => codeX_all (L.take k) (fun s hs => ⟨⟨_, h.hfit s (List.mem_of_mem_take hs)⟩, hnm s (List.mem_of_mem_take hs)⟩))
  have HNM := Lib.hid hnm
  have he := P.enc_len n (by omega)
  obtain ⟨T, hT⟩ : ∃ T, S ++ enc n = T := ⟨_, rfl⟩
  obtain ⟨q, hq⟩ : ∃ q, m0 + (enc n).length = q := ⟨_, rfl⟩
  have hTq : T.length = q := by rw [← hT, List.length_append, hr.hlen]; exact hq
  have hqb : q ≤ 10000009 := by omega
  have HN := Lib.hid (pnum a0 m0 c0 (n : Int) S w hr (by omega) (by omega))
  rw [Int.toNat_natCast, hT, hq] at HN
  have HTQ := Lib.hid hTq
  rw [show S ++ (enc n ++ L.flatMap codeX) = T ++ L.flatMap codeX by rw [← hT]; simp]
  clear h hr hnm hT hTq he hq
  go_enter Tryz.func42, Tryz.ntmps42
  go_wp2_with (go_at_call 67; (with_reducible refine HN.out.mono ?_); rintro z w1 ⟨rfl, hbk, hb, -⟩; have F1 := Lib.hid (show Fr w1 w.heap.size (.slice (some ⟨w.heap.size, 0, none⟩) q q) T by have := hbk.fr (base := w.heap.size) (Nat.le_refl _) (by rw [HTQ.out]; omega); rw [HTQ.out] at this; exact this); have B1 := Lib.hid hb; clear hbk hb)
  go_loopw [7, 16] (fun v i wr => ∃ (k : Nat) (y : Option Addr) (m d : Nat), v = .slice y m d ∧ i = .int .i64 (k : Int) ∧ k ≤ n ∧ Hid (Fr wr w.heap.size (.slice y m d) (T ++ (L.take k).flatMap codeX)) ∧ Hid (Below w.heap.size w wr)) (fun _ i _ => n - (intOf i).toNat)
  case atStart => exact ⟨0, _, _, _, rfl, rfl, Nat.zero_le _, Lib.hid (by simpa using F1.out), B1⟩
  case round =>
    obtain ⟨k, y, m, d, rfl, rfl, hk, F, B⟩ := hrel
    have hbl := HB.out k
    have hlk : (L.take k).length ≤ 30 := by rw [List.length_take]; omega
    have hcur : (T ++ (L.take k).flatMap codeX).length ≤ 20000000000 := by
      rw [List.length_append, HTQ.out]; have : (L.take k).length * 300000000 ≤ 30 * 300000000 := Nat.mul_le_mul_right _ hlk; omega
    by_cases hlt : k < n
    · obtain ⟨b, o, s, rfl, hx, hcell, hfs⟩ := H.out.at snOk B.out k hlt
      have hmem : s ∈ L := by
        obtain ⟨h1, h2⟩ := List.getElem?_eq_some_iff.1 hx
        rw [← h2]; exact List.getElem_mem h1
      have HCD := Lib.hid (fun w' (hb : Below wr.heap.size wr w') => psnapcode s w' (snOk.mono s _ _ hfs hb) (HNM.out s hmem))
      have HST := Lib.hid (show T ++ (L.take (k + 1)).flatMap codeX = (T ++ (L.take k).flatMap codeX) ++ codeX s by rw [codeX_step L k s hx]; simp)
      obtain ⟨U, hU⟩ : ∃ U, T ++ (L.take k).flatMap codeX = U := ⟨_, rfl⟩
      rw [hU] at F hcur HST
      obtain ⟨⟨sp, nm, by1, ti, ke, PL⟩, pa, pm, pc⟩ := s
      have XC := Lib.hid hcell
      have HUB := Lib.hid hcur
      have g1 : (0 : Int) ≤ (k : Int) := by omega
      have g2 : (k : Int) < (n : Int) := by omega
      clear hx hcell hfs hmem hU hbl hlk hcur
      go_wp2_with (first
        | ((with_reducible refine load_cells (o := ⟨some 19, _, _, _, _, _⟩) rfl _ _ rfl b (o + k * 6) ?_ (snC sp nm by1 ti ke pa pm pc) _ XC.out Tryz.underlying45 rfl ?_ ?_); (focus go_simp); (focus (exact HSZ.out)))
        | ((with_reducible refine alloc_row (o := ⟨some 9, _, _, _, _, _⟩) rfl _ rfl _ MZ.out ?_); intro w5 hr hb hz; have X5 := Lib.hid hr; have D5 := Lib.hid hb; have F5 := Lib.hid (F.out.kept hb); have NO := Lib.hid (show (Value.slice y m d).ownBlock ≠ some wr.heap.size from fun e => Nat.lt_irrefl _ (World.ownsRow.lt F.out _ e).2); have B5 := Lib.hid (B.out.trans (hb.mono B.out.size)); clear hr hb hz)
        | ((with_reducible refine store_row (o := ⟨none, _, _, _, _, _⟩) rfl _ (.tmp 9) _ rfl wr.heap.size (snC sp nm by1 ti ke pa pm pc) ?_ ?_ 45 _ X5.out ?_ ?_ ?_ ?_); (focus go_simp); (focus (first | (go_simp; done) | (go_simp; rfl))); (focus (exact HSZ.out)); (focus rfl); (focus (exact sn_one sp nm by1 ti ke pa pm pc)); intro w6 hr hu; have X6 := Lib.hid hr; have D6 := Lib.hid (D5.out.trans (hu.below (Nat.le_refl _))); have F6 := Lib.hid (fr_updM F5.out hu NO.out); have B6 := Lib.hid (B5.out.trans (hu.below B.out.size)); clear hr hu)
        | ((with_reducible refine load_row (o := ⟨some 22, _, _, _, _, _⟩) rfl _ _ rfl wr.heap.size ?_ _ (snC sp nm by1 ti ke pa pm pc) _ X6.out Tryz.underlying45 rfl ?_ ?_); (focus go_simp); (focus (exact HSZ.out)))
        | (go_at_call 43; (with_reducible refine (HCD.out w6 D6.out).mono ?_); rintro z w7 ⟨y7, m7, d7, rfl, hrd, hm7, hb⟩; have R7 := Lib.hid hrd; have HM7 := Lib.hid hm7; have F7 := Lib.hid (F6.out.kept hb); have B7 := Lib.hid (B6.out.trans (hb.mono B6.out.size)); clear hrd hb hm7)
        | ((with_reducible refine append_rd (o := ⟨some 24, _, _, _, _, _⟩) rfl _ _ rfl w.heap.size _ U ?_ F7.out y7 m7 d7 _ ?_ R7.out ?_ B7.out.size ?_); (focus (first | (go_simp; done) | (go_simp; rfl))); (focus (first | (go_simp; done) | (go_simp; rfl))); (focus (have := HUB.out; have := HM7.out; omega)); intro v8 w8 hN hb2 _; rw [← HST.out] at hN; obtain ⟨q8, hq8⟩ : ∃ q, (T ++ (L.take (k + 1)).flatMap codeX).length = q := ⟨_, rfl⟩; obtain ⟨y8, d8, rfl, -⟩ := hN.form' q8 hq8; have F8 := Lib.hid hN; have B8 := Lib.hid (B7.out.trans hb2); clear hN hb2 hq8))
      go_roundw
      case rel => exact ⟨k + 1, _, _, _, rfl, vint (by omega), by omega, F8, B8⟩
      case measure => simp [intOf]; omega
    · obtain rfl : n = k := by omega
      have ht : L.take n = L := List.take_of_length_le (by rw [HL.out]; exact Nat.le_refl _)
      rw [ht] at F hcur
      obtain ⟨u, hu⟩ : ∃ u, (T ++ L.flatMap codeX).length = u := ⟨_, rfl⟩
      obtain ⟨y', d', hv, hrd⟩ := F.out.form' u hu
      obtain ⟨rfl, rfl, rfl⟩ : y = y' ∧ m = u ∧ d = d' := by injection hv with e1 e2 e3; exact ⟨e1, e2, e3⟩
      have RX := Lib.hid hrd
      have hmb : m ≤ 20000000000 := by rw [← hu]; exact hcur
      clear hv hrd hu ht hbl hlk hcur
      go_wp2_with fail
      go_ret
      exact ⟨_, _, _, rfl, RX.out, by omega, B.out⟩
set_option maxRecDepth 100000 in
theorem pputsn (a0 : Option Addr) (m0 c0 : Nat) (S : List UInt8) (a : Option Addr) (n c : Nat) (L : List SnX) (w : World) (hr : Rd w a0 m0 c0 S) (hm0 : m0 ≤ 10000000) (h : Ls snE w a n c L) (hn : n ≤ 30) (hnm : ∀ x ∈ L, x.short) :
    Calls Tryz.prog 19 #[.slice a0 m0 c0, .slice a n c] w fun x w' => ∃ y m d, x = .returned (.slice y m d) ∧ Rd w' y m d (S ++ (enc n ++ L.flatMap codeX)) ∧ m ≤ 30000000000 ∧ Below w.heap.size w w' := by
  have HP := Lib.hid (plsputs a0 m0 c0 S a n c L w hr hm0 h hn hnm)
  clear h hr hnm
  go_enter Tryz.func19, Tryz.ntmps19
  go_wp2_with (first
    | (go_at_call 42; (with_reducible refine HP.out.mono ?_); rintro x w1 ⟨y1, m1, d1, rfl, hrd, hm1, hb⟩; have R1 := Lib.hid hrd; have M1 := Lib.hid hm1; have B1 := Lib.hid hb; clear hrd hm1 hb))
  go_ret
  exact ⟨_, _, _, rfl, R1.out, M1.out, B1.out⟩
end Go.Proofs.YtjolmjbhpokgmaaGreat.W

namespace Go.Proofs.YtjolmjbhpokgmaaGreat.W
open Go Go.ChangeShapes Go.WideShapes Go.ChangeAt Go.RowKit
open Go.Proofs.YtjolmjbhpokgmaaGreat.P (enc dec)
open Go.Proofs.YtjolmjbhpokgmaaGreat.S

set_option maxRecDepth 100000 in
set_option maxHeartbeats 16000000 in
theorem uputsn (a0 : Option Addr) (m0 c0 : Nat) (S : List UInt8) (a : Option Addr) (n c : Nat) (L : List SnX) (w : World) (hr : Rd w a0 m0 c0 S) (hm0 : m0 ≤ 10000000) (h : Ls snE w a n c L) (hn : n ≤ 30) (hnm : ∀ x ∈ L, x.short) :
    Calls Tryz.prog 20 #[.slice a0 m0 c0, .slice a n c] w fun x w' => ∃ y m d, x = .returned (.slice y m d) ∧ Rd w' y m d (S ++ (enc n ++ L.flatMap codeX)) ∧ m ≤ 30000000000 ∧ Below w.heap.size w w' := by
  have H := Lib.hid h
  have HL := Lib.hid h.hlen
  have hm := h.hmax
  have hle := h.hle
  have HSZ := Lib.hid sn_size
  have MZ := Lib.hid sn_zero
  have HB := Lib.hid (fun k => codeX_all (L.take k) (fun s hs => ⟨⟨_, h.hfit s (List.mem_of_mem_take hs)⟩, hnm s (List.mem_of_mem_take hs)⟩))
  have HNM := Lib.hid hnm
  have he := P.enc_len n (by omega)
  obtain ⟨T, hT⟩ : ∃ T, S ++ enc n = T := ⟨_, rfl⟩
  obtain ⟨q, hq⟩ : ∃ q, T.length = q := ⟨_, rfl⟩
  have hTq : q = m0 + (enc n).length := by rw [← hq, ← hT, List.length_append, hr.hlen]
  have HN := Lib.hid (rnumF a0 m0 c0 (n : Int) S w hr (by omega) (by omega) T (by rw [Int.toNat_natCast]; exact hT) q hq)
  have HTQ := Lib.hid hq
  rw [show S ++ (enc n ++ L.flatMap codeX) = T ++ L.flatMap codeX by rw [← hT]; simp]
  have hqb : q ≤ m0 + 9 := by omega
  clear h hr hnm hT hTq he hq
  go_enter Tryz.func20, Tryz.ntmps20
  go_wp2_with (go_at_call 44; (with_reducible refine HN.out.mono ?_); rintro z w1 ⟨y1, d1, rfl, hrd, hb⟩; have F1 := Lib.hid hrd; have B1 := Lib.hid hb; clear hrd hb)
  go_loopw [0, 5] (fun v i wr => ∃ (k : Nat) (y : Option Addr) (m d : Nat), v = .slice y m d ∧ i = .int .i64 (k : Int) ∧ k ≤ n ∧ Hid (Rd wr y m d (T ++ (L.take k).flatMap codeX)) ∧ Hid (Below w.heap.size w wr)) (fun _ i _ => n - (intOf i).toNat)
  case atStart => exact ⟨0, _, _, _, rfl, rfl, Nat.zero_le _, Lib.hid (by simpa using F1.out), B1⟩
  case round =>
    obtain ⟨k, y, m, d, rfl, rfl, hk, F, B⟩ := hrel
    have hbl := HB.out k
    have hlk : (L.take k).length ≤ 30 := by rw [List.length_take]; omega
    have hcur : m ≤ 9100000000 := by
      have h1 := F.out.hlen
      rw [List.length_append, HTQ.out] at h1; have : (L.take k).length * 300000000 ≤ 30 * 300000000 := Nat.mul_le_mul_right _ hlk; omega
    by_cases hlt : k < n
    · obtain ⟨b, o, s, rfl, hx, hcell, hfs⟩ := H.out.at snOk B.out k hlt
      have hmem : s ∈ L := by
        obtain ⟨h1, h2⟩ := List.getElem?_eq_some_iff.1 hx
        rw [← h2]; exact List.getElem_mem h1
      have hss := HNM.out s hmem
      have hst := codeX_step L k s hx
      obtain ⟨U, hU⟩ : ∃ U, T ++ (L.take k).flatMap codeX = U := ⟨_, rfl⟩
      have HST := Lib.hid (show T ++ (L.take (k + 1)).flatMap codeX = (((((U ++ (enc s.s.sp.size ++ s.s.sp.data.toList)) ++ (enc s.s.nm.size ++ s.s.nm.data.toList)) ++ enc s.s.by'.toNat) ++ enc s.s.ti.toNat) ++ enc s.s.ke.toNat) ++ (enc s.s.P.length ++ s.s.P.flatMap codeP) by rw [hst, ← hU]; unfold codeX codeS; simp)
      rw [hU] at F
      obtain ⟨⟨sp, nm, by1, ti, ke, PL⟩, pa, pm, pc⟩ := s
      obtain ⟨-, -, i1, i2, i3, hP⟩ := hfs
      obtain ⟨n1, n2, n3, n4⟩ := hss
      dsimp only at HST i1 i2 i3 hP n1 n2 n3 n4
      have I1 := Lib.hid i1
      have I2 := Lib.hid i2
      have I3 := Lib.hid i3
      have e1 : sp.data.toList.length = sp.size := Array.length_toList
      have e2 : nm.data.toList.length = nm.size := Array.length_toList
      have l1 := P.enc_len sp.size (by omega)
      have l2 := P.enc_len nm.size (by omega)
      have l3 := P.enc_len by1.toNat (by have := i1.2; omega)
      have l4 := P.enc_len ti.toNat (by have := i2.2; omega)
      have l5 := P.enc_len ke.toNat (by have := i3.2; omega)
      have hpm := hP.hlen
      rw [hpm] at HST
      have hFl := F.out.hlen
      obtain ⟨T1, hT1⟩ : ∃ T, U ++ (enc sp.size ++ sp.data.toList) = T := ⟨_, rfl⟩
      obtain ⟨T2, hT2⟩ : ∃ T, T1 ++ (enc nm.size ++ nm.data.toList) = T := ⟨_, rfl⟩
      obtain ⟨T3, hT3⟩ : ∃ T, T2 ++ enc by1.toNat = T := ⟨_, rfl⟩
      obtain ⟨T4, hT4⟩ : ∃ T, T3 ++ enc ti.toNat = T := ⟨_, rfl⟩
      obtain ⟨T5, hT5⟩ : ∃ T, T4 ++ enc ke.toNat = T := ⟨_, rfl⟩
      obtain ⟨q1, hq1⟩ : ∃ q, T1.length = q := ⟨_, rfl⟩
      obtain ⟨q2, hq2⟩ : ∃ q, T2.length = q := ⟨_, rfl⟩
      obtain ⟨q3, hq3⟩ : ∃ q, T3.length = q := ⟨_, rfl⟩
      obtain ⟨q4, hq4⟩ : ∃ q, T4.length = q := ⟨_, rfl⟩
      obtain ⟨q5, hq5⟩ : ∃ q, T5.length = q := ⟨_, rfl⟩
      have b1 : q1 ≤ 9102000009 := by rw [← hq1, ← hT1, List.length_append, List.length_append, e1, hFl]; omega
      have b2 : q2 ≤ 9104000018 := by rw [← hq2, ← hT2, List.length_append, List.length_append, e2, hq1]; omega
      have b3 : q3 ≤ 9104000028 := by rw [← hq3, ← hT3, List.length_append, hq2]; omega
      have b4 : q4 ≤ 9104000038 := by rw [← hq4, ← hT4, List.length_append, hq3]; omega
      have b5 : q5 ≤ 9104000048 := by rw [← hq5, ← hT5, List.length_append, hq4]; omega
      have HST2 := Lib.hid (show T ++ (L.take (k + 1)).flatMap codeX = T5 ++ (enc pm ++ PL.flatMap codeP) by rw [HST.out, hT1, hT2, hT3, hT4, hT5])
      have HT1 := Lib.hid hT1
      have HT2 := Lib.hid hT2
      have HT3 := Lib.hid hT3
      have HT4 := Lib.hid hT4
      have HT5 := Lib.hid hT5
      have Q1 := Lib.hid hq1
      have Q2 := Lib.hid hq2
      have Q3 := Lib.hid hq3
      have Q4 := Lib.hid hq4
      have Q5 := Lib.hid hq5
      have HPP := Lib.hid (fun y d w' (hw : Below wr.heap.size wr w') (hr : Rd w' y q5 d T5) => uputps y q5 d T5 pa pm pc PL w' hr (by omega) (hP.mono pcOk hw) (by omega) n4)
      have XC := Lib.hid hcell
      have g1 : (0 : Int) ≤ (k : Int) := by omega
      have g2 : (k : Int) < (n : Int) := by omega
      clear hx hcell hmem hU hbl hlk hP hT1 hT2 hT3 hT4 hT5 hq1 hq2 hq3 hq4 hq5 i1 i2 i3 n3 n4 hpm e1 e2 l1 l2 l3 l4 l5 HST hst hFl
      go_wp2_with (first
        | ((with_reducible refine load_cells (o := ⟨some 20, _, _, _, _, _⟩) rfl _ _ rfl b (o + k * 6) ?_ (snC sp nm by1 ti ke pa pm pc) _ XC.out Tryz.underlying45 rfl ?_ ?_); (focus go_simp); (focus (exact HSZ.out)))
        | ((with_reducible refine alloc_row (o := ⟨some 6, _, _, _, _, _⟩) rfl _ rfl _ MZ.out ?_); intro w5 hr hb hz; have X5 := Lib.hid hr; have D5 := Lib.hid hb; clear hr hb hz)
        | ((with_reducible refine store_row (o := ⟨none, _, _, _, _, _⟩) rfl _ (.tmp 6) _ rfl wr.heap.size (snC sp nm by1 ti ke pa pm pc) ?_ ?_ 45 _ X5.out ?_ ?_ ?_ ?_); (focus go_simp); (focus (first | (go_simp; done) | (go_simp; rfl))); (focus (exact HSZ.out)); (focus rfl); (focus (exact sn_one _ _ _ _ _ _ _ _)); intro w6 hr hu; have R1 := Lib.hid hr; obtain ⟨c0, c1, c2, c3, c4, c5⟩ := hr.h6s; have C0 := Lib.hid c0; have C1 := Lib.hid c1; have C2 := Lib.hid c2; have C3 := Lib.hid c3; have C4 := Lib.hid c4; have C5 := Lib.hid c5; have D6 := Lib.hid (D5.out.trans (hu.below (Nat.le_refl _))); clear hr hu c0 c1 c2 c3 c4 c5))
      refine region_h (fun v => Below w6.heap.size w6 v) (by kernel_rfl) (by kernel_rfl) (Below.refl _ _).drew ?_
      obtain ⟨w10, hwd⟩ : ∃ wd, w6.drew = wd := ⟨_, rfl⟩
      have J10 : Hid (Below w6.heap.size w6 w10) := Lib.hid (by rw [← hwd]; exact (Below.refl _ _).drew)
      rw [hwd]
      clear hwd
      (refine h_read 0 rfl (by kernel_rfl) (by kernel_rfl) (h_free rfl) ?_ ?_ ?_; rotate_left; (focus (intro v hv; go_simp; rfl)); go_simp)
      (refine h_read 1 rfl (by kernel_rfl) (by kernel_rfl) (h_free rfl) ?_ ?_ ?_; rotate_left; (focus (intro v hv; go_simp; rfl)); go_simp)
      (refine h_read 2 rfl (by kernel_rfl) (by kernel_rfl) (h_free rfl) ?_ ?_ ?_; rotate_left; (focus (intro v hv; have x0 := (hv.cell (p := ⟨wr.heap.size, 0, none⟩) R1.out.lt).trans C0.out; have x1 := (hv.cell (p := ⟨wr.heap.size, 1, none⟩) R1.out.lt).trans C1.out; have x2 := (hv.cell (p := ⟨wr.heap.size, 2, none⟩) R1.out.lt).trans C2.out; have x3 := (hv.cell (p := ⟨wr.heap.size, 3, none⟩) R1.out.lt).trans C3.out; have x4 := (hv.cell (p := ⟨wr.heap.size, 4, none⟩) R1.out.lt).trans C4.out; have x5 := (hv.cell (p := ⟨wr.heap.size, 5, none⟩) R1.out.lt).trans C5.out; go_simp; rfl)); go_simp)
      (refine h_read 4 rfl (by kernel_rfl) (by kernel_rfl) (h_free rfl) ?_ ?_ ?_; rotate_left; (focus (intro v hv; go_simp; rfl)); go_simp)
      (refine h_read 5 rfl (by kernel_rfl) (by kernel_rfl) (h_free rfl) ?_ ?_ ?_; rotate_left; (focus (intro v hv; have x0 := (hv.cell (p := ⟨wr.heap.size, 0, none⟩) R1.out.lt).trans C0.out; have x1 := (hv.cell (p := ⟨wr.heap.size, 1, none⟩) R1.out.lt).trans C1.out; have x2 := (hv.cell (p := ⟨wr.heap.size, 2, none⟩) R1.out.lt).trans C2.out; have x3 := (hv.cell (p := ⟨wr.heap.size, 3, none⟩) R1.out.lt).trans C3.out; have x4 := (hv.cell (p := ⟨wr.heap.size, 4, none⟩) R1.out.lt).trans C4.out; have x5 := (hv.cell (p := ⟨wr.heap.size, 5, none⟩) R1.out.lt).trans C5.out; go_simp; rfl)); go_simp)
      (refine h_read 7 rfl (by kernel_rfl) (by kernel_rfl) (h_free rfl) ?_ ?_ ?_; rotate_left; (focus (intro v hv; go_simp; rfl)); go_simp)
      (refine h_read 8 rfl (by kernel_rfl) (by kernel_rfl) (h_free rfl) ?_ ?_ ?_; rotate_left; (focus (intro v hv; have x0 := (hv.cell (p := ⟨wr.heap.size, 0, none⟩) R1.out.lt).trans C0.out; have x1 := (hv.cell (p := ⟨wr.heap.size, 1, none⟩) R1.out.lt).trans C1.out; have x2 := (hv.cell (p := ⟨wr.heap.size, 2, none⟩) R1.out.lt).trans C2.out; have x3 := (hv.cell (p := ⟨wr.heap.size, 3, none⟩) R1.out.lt).trans C3.out; have x4 := (hv.cell (p := ⟨wr.heap.size, 4, none⟩) R1.out.lt).trans C4.out; have x5 := (hv.cell (p := ⟨wr.heap.size, 5, none⟩) R1.out.lt).trans C5.out; go_simp; rfl)); go_simp)
      (refine h_call 3 rfl (by kernel_rfl) (h_free rfl) 45 ?_ ?_ ?_; rotate_left; (focus (go_simp; rfl)))
      refine (rtextF y m d sp U w10 (F.out.mono (D6.out.trans (J10.out.mono D6.out.size))) (by omega) (by omega) T1 HT1.out q1 Q1.out).mono ?_
      rintro z w11 ⟨y11, d11, rfl, hrd, hb⟩
      have K11 := Lib.hid hrd
      have J11 := Lib.hid (J10.out.trans (hb.mono J10.out.size))
      clear hrd hb
      refine ⟨_, rfl, J11.out, ?_⟩
      go_simp
      (refine h_call 6 rfl (by kernel_rfl) (h_free rfl) 45 ?_ ?_ ?_; rotate_left; (focus (go_simp; rfl)))
      refine (rtextF y11 q1 d11 nm T1 w11 K11.out (by omega) (by omega) T2 HT2.out q2 Q2.out).mono ?_
      rintro z w12 ⟨y12, d12, rfl, hrd, hb⟩
      have K12 := Lib.hid hrd
      have J12 := Lib.hid (J11.out.trans (hb.mono J11.out.size))
      clear hrd hb
      refine ⟨_, rfl, J12.out, ?_⟩
      go_simp
      (refine h_call 9 rfl (by kernel_rfl) (h_free rfl) 44 ?_ ?_ ?_; rotate_left; (focus (go_simp; rfl)))
      refine (rnumF y12 q2 d12 by1 T2 w12 K12.out I1.out.2 (by omega) T3 HT3.out q3 Q3.out).mono ?_
      rintro z w13 ⟨y13, d13, rfl, hrd, hb⟩
      have K13 := Lib.hid hrd
      have J13 := Lib.hid (J12.out.trans (hb.mono J12.out.size))
      clear hrd hb
      refine ⟨_, rfl, J13.out, ?_⟩
      go_simp
      (refine h_read 10 rfl (by kernel_rfl) (by kernel_rfl) (h_free rfl) ?_ ?_ ?_; rotate_left; (focus (intro v hv; go_simp; rfl)); go_simp)
      refine h_done (by kernel_rfl) ?_
      have R2 := Lib.hid (R1.out.below J13.out R1.out.lt)
      have D7 := Lib.hid (D6.out.trans (J13.out.mono D6.out.size))
      clear C0 C1 C2 C3 C4 C5
      obtain ⟨c0, c1, c2, c3, c4, c5⟩ := R2.out.h6s
      have C0 := Lib.hid c0
      have C1 := Lib.hid c1
      have C2 := Lib.hid c2
      have C3 := Lib.hid c3
      have C4 := Lib.hid c4
      have C5 := Lib.hid c5
      clear c0 c1 c2 c3 c4 c5
      go_wp2_with fail
      refine region_h (fun v => Below w13.heap.size w13 v) (by kernel_rfl) (by kernel_rfl) (Below.refl _ _).drew ?_
      obtain ⟨w20, hwd⟩ : ∃ wd, w13.drew = wd := ⟨_, rfl⟩
      have J20 : Hid (Below w13.heap.size w13 w20) := Lib.hid (by rw [← hwd]; exact (Below.refl _ _).drew)
      rw [hwd]
      clear hwd
      (refine h_read 0 rfl (by kernel_rfl) (by kernel_rfl) (h_free rfl) ?_ ?_ ?_; rotate_left; (focus (intro v hv; go_simp; rfl)); go_simp)
      (refine h_read 1 rfl (by kernel_rfl) (by kernel_rfl) (h_free rfl) ?_ ?_ ?_; rotate_left; (focus (intro v hv; go_simp; rfl)); go_simp)
      (refine h_read 2 rfl (by kernel_rfl) (by kernel_rfl) (h_free rfl) ?_ ?_ ?_; rotate_left; (focus (intro v hv; have x0 := (hv.cell (p := ⟨wr.heap.size, 0, none⟩) R2.out.lt).trans C0.out; have x1 := (hv.cell (p := ⟨wr.heap.size, 1, none⟩) R2.out.lt).trans C1.out; have x2 := (hv.cell (p := ⟨wr.heap.size, 2, none⟩) R2.out.lt).trans C2.out; have x3 := (hv.cell (p := ⟨wr.heap.size, 3, none⟩) R2.out.lt).trans C3.out; have x4 := (hv.cell (p := ⟨wr.heap.size, 4, none⟩) R2.out.lt).trans C4.out; have x5 := (hv.cell (p := ⟨wr.heap.size, 5, none⟩) R2.out.lt).trans C5.out; go_simp; rfl)); go_simp)
      (refine h_read 4 rfl (by kernel_rfl) (by kernel_rfl) (h_free rfl) ?_ ?_ ?_; rotate_left; (focus (intro v hv; go_simp; rfl)); go_simp)
      (refine h_read 5 rfl (by kernel_rfl) (by kernel_rfl) (h_free rfl) ?_ ?_ ?_; rotate_left; (focus (intro v hv; have x0 := (hv.cell (p := ⟨wr.heap.size, 0, none⟩) R2.out.lt).trans C0.out; have x1 := (hv.cell (p := ⟨wr.heap.size, 1, none⟩) R2.out.lt).trans C1.out; have x2 := (hv.cell (p := ⟨wr.heap.size, 2, none⟩) R2.out.lt).trans C2.out; have x3 := (hv.cell (p := ⟨wr.heap.size, 3, none⟩) R2.out.lt).trans C3.out; have x4 := (hv.cell (p := ⟨wr.heap.size, 4, none⟩) R2.out.lt).trans C4.out; have x5 := (hv.cell (p := ⟨wr.heap.size, 5, none⟩) R2.out.lt).trans C5.out; go_simp; rfl)); go_simp)
      (refine h_read 7 rfl (by kernel_rfl) (by kernel_rfl) (h_free rfl) ?_ ?_ ?_; rotate_left; (focus (intro v hv; go_simp; rfl)); go_simp)
      (refine h_read 8 rfl (by kernel_rfl) (by kernel_rfl) (h_free rfl) ?_ ?_ ?_; rotate_left; (focus (intro v hv; have x0 := (hv.cell (p := ⟨wr.heap.size, 0, none⟩) R2.out.lt).trans C0.out; have x1 := (hv.cell (p := ⟨wr.heap.size, 1, none⟩) R2.out.lt).trans C1.out; have x2 := (hv.cell (p := ⟨wr.heap.size, 2, none⟩) R2.out.lt).trans C2.out; have x3 := (hv.cell (p := ⟨wr.heap.size, 3, none⟩) R2.out.lt).trans C3.out; have x4 := (hv.cell (p := ⟨wr.heap.size, 4, none⟩) R2.out.lt).trans C4.out; have x5 := (hv.cell (p := ⟨wr.heap.size, 5, none⟩) R2.out.lt).trans C5.out; go_simp; rfl)); go_simp)
      (refine h_call 3 rfl (by kernel_rfl) (h_free rfl) 44 ?_ ?_ ?_; rotate_left; (focus (go_simp; rfl)))
      refine (rnumF y13 q3 d13 ti T3 w20 (K13.out.mono J20.out) I2.out.2 (by omega) T4 HT4.out q4 Q4.out).mono ?_
      rintro z w21 ⟨y21, d21, rfl, hrd, hb⟩
      have K21 := Lib.hid hrd
      have J21 := Lib.hid (J20.out.trans (hb.mono J20.out.size))
      clear hrd hb
      refine ⟨_, rfl, J21.out, ?_⟩
      go_simp
      (refine h_call 6 rfl (by kernel_rfl) (h_free rfl) 44 ?_ ?_ ?_; rotate_left; (focus (go_simp; rfl)))
      refine (rnumF y21 q4 d21 ke T4 w21 K21.out I3.out.2 (by omega) T5 HT5.out q5 Q5.out).mono ?_
      rintro z w22 ⟨y22, d22, rfl, hrd, hb⟩
      have K22 := Lib.hid hrd
      have J22 := Lib.hid (J21.out.trans (hb.mono J21.out.size))
      clear hrd hb
      refine ⟨_, rfl, J22.out, ?_⟩
      go_simp
      (refine h_call 9 rfl (by kernel_rfl) (h_free rfl) 22 ?_ ?_ ?_; rotate_left; (focus (go_simp; rfl)))
      refine (HPP.out _ _ w22 (D7.out.trans (J22.out.mono D7.out.size)) K22.out).mono ?_
      rintro z w23 ⟨y23, m23, d23, rfl, hrd, hmm, hb⟩
      have K23 := Lib.hid hrd
      have J23 := Lib.hid (J22.out.trans (hb.mono J22.out.size))
      clear hmm
      clear hrd hb
      refine ⟨_, rfl, J23.out, ?_⟩
      go_simp
      (refine h_read 10 rfl (by kernel_rfl) (by kernel_rfl) (h_free rfl) ?_ ?_ ?_; rotate_left; (focus (intro v hv; go_simp; rfl)); go_simp)
      refine h_done (by kernel_rfl) ?_
      have D8 := Lib.hid (D7.out.trans (J23.out.mono D7.out.size))
      go_wp2_with fail
      go_roundw
      case rel => exact ⟨k + 1, _, _, _, rfl, vint (by omega), by omega, Lib.hid (by rw [HST2.out]; exact K23.out), Lib.hid (B.out.trans (D8.out.mono B.out.size))⟩
      case measure => simp [intOf]; omega
    · obtain rfl : n = k := by omega
      have ht : L.take n = L := List.take_of_length_le (by rw [HL.out]; exact Nat.le_refl _)
      rw [ht] at F
      clear ht hbl hlk
      go_wp2_with fail
      go_ret
      exact ⟨_, _, _, rfl, F.out, by omega, B.out⟩
end Go.Proofs.YtjolmjbhpokgmaaGreat.W
