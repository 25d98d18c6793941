/- LAYER 22 (chain): May, Put, Read of both. -/
import Derived.Test.YtnkpcolkhmphmaaDoorChS
import Derived.Test.YtnkpcolkhmphmaaDoorByt
import Derived.Test.YtnkpcolkhmphmaaDoorLn
set_option linter.unusedSimpArgs false
set_option linter.unusedVariables false
namespace Go.Proofs.YtnkpcolkhmphmaaDoor.W
open Go Go.ChangeShapes Go.WideShapes Go.ChangeAt Go.RowKit
open Go.Proofs.YtnkpcolkhmphmaaDoor.P (enc dec shaL shaL_len)

def Ch.may (c : Ch) : Bool := decide (0 ≤ c.len) && (decide (c.len ≤ 4611686018427387904) && decide (c.hd.size = 32))
def putC (c : Ch) : List UInt8 := enc c.len.toNat ++ (enc c.hd.size ++ c.hd.data.toList)
def chE : Ch := ⟨0, ⟨#[]⟩⟩
def endC (c : Ch) (q : List UInt8 × Int) : Ch × List UInt8 × Int := if q.2 = 0 then if c.may then (c, q) else (chE, [], 3) else (chE, q)
def readC (l : List UInt8) (e : Int) : Ch × List UInt8 × Int :=
  let a := numR 4611686018427387904 l e; let t := textR 32 a.2.1 a.2.2
  endC ⟨(a.1 : Int), str t.1⟩ t.2
theorem may_fit {c : Ch} (h : c.may = true) : c.fit := by
  unfold Ch.may at h
  simp only [Bool.and_eq_true, decide_eq_true_eq] at h
  exact ⟨⟨by omega, by omega⟩, by omega⟩
theorem chE_fit : chE.fit := ⟨⟨by decide, by decide⟩, by decide⟩
theorem readC_fit (l : List UInt8) (e : Int) : (readC l e).1.fit := by
  unfold readC endC
  dsimp only
  split
  · split
    · rename_i h; exact may_fit h
    · exact chE_fit
  · exact chE_fit
theorem read_putC {c : Ch} (h : c.may = true) : readC (putC c) 0 = (c, [], 0) := by
  have h0 := h
  unfold Ch.may at h
  simp only [Bool.and_eq_true, decide_eq_true_eq] at h
  obtain ⟨h1, h2, h3⟩ := h
  have hn := num_enc 4611686018427387904 c.len.toNat (enc c.hd.size ++ c.hd.data.toList) (by omega) (by omega)
  have ht := text_enc 32 c.hd [] (by omega) (by omega)
  rw [List.append_nil] at ht
  unfold readC putC
  simp only [hn, ht]
  have e : (⟨((c.len.toNat : Nat) : Int), str c.hd.data.toList⟩ : Ch) = c := by
    obtain ⟨x, s⟩ := c
    dsimp only at h1 ⊢
    have e1 : ((x.toNat : Nat) : Int) = x := by omega
    rw [e1]; rfl
  rw [e]
  unfold endC
  rw [if_pos rfl, if_pos h0]
theorem nob_ch (c : Ch) : NoB (chC c) := by intro x hx; simp [B] at hx
theorem RP.putC' {w w' : World} {p g : Nat} {t : TypeId} {l : List UInt8} {e : Int} {L : List Value} (h : RP w p l e) (hpg : p ≠ g) (hq : Row w g t L) (hnb : NoB L) (hu : Upd w w' g) : RP w' p l e := by
  obtain ⟨a, cap, hh, hr⟩ := h.ex
  exact ⟨⟨a, cap, by rw [hu.block p hpg]; exact hh, hr.upd' hu (hr.apart hq (fun x hx => hnb x (by simpa using hx)))⟩, h.small, h.hnone⟩
theorem RR.putC' {w w' : World} {p g : Nat} {t : TypeId} {l : List UInt8} {e : Int} {L : List Value} (h : RR w p l e) (hpg : p ≠ g) (hq : Row w g t L) (hnb : NoB L) (hu : Upd w w' g) : RR w' p l e := by
  obtain ⟨a, cap, hh, hr⟩ := h.ex
  exact ⟨⟨a, cap, by rw [hu.block p hpg]; exact hh, hr.upd' hu (hr.apart hq (fun x hx => hnb x (by simpa using hx)))⟩, h.small, h.hnone⟩
set_option maxRecDepth 100000 in
set_option maxHeartbeats 16000000 in
theorem chmay (c : Ch) (w : World) (q : Bool) (hq : c.may = q) (hs : c.hd.size ≤ 9223372036854775807) : Calls Tryd.prog 25 #[.agg (chC c).toArray] w fun e w' => e = .returned (.bool q) ∧ Below w.heap.size w w' := by
  obtain ⟨x, s⟩ := c
  dsimp only at hs
  by_cases h1 : 0 ≤ x
  rotate_left
  · have HO := Lib.hid (show q = false by rw [← hq]; unfold Ch.may; rw [decide_eq_false h1]; rfl)
    clear hq
    go_enter Tryd.func25, Tryd.ntmps25
    go_wp2_with (first
      | ((with_reducible refine box_row (o := ⟨some 1, _, _, _, _, _⟩) rfl _ _ rfl (chC ⟨x, s⟩) rfl ?_); intro w1 hr hb hz; have B1 := Lib.hid hb; obtain ⟨k0, k1⟩ := hr.c2; clear hr hb hz))
    go_ret
    exact ⟨one (vbool (by rw [HO.out]; first | done | rfl | (simp; done) | (simp; omega))), B1.out⟩
  by_cases h2 : x ≤ 4611686018427387904
  rotate_left
  · have HO := Lib.hid (show q = false by rw [← hq]; unfold Ch.may; rw [decide_eq_false h2]; simp)
    have g2 : 4611686018427387904 < x := by omega
    clear hq
    go_enter Tryd.func25, Tryd.ntmps25
    go_wp2_with (first
      | ((with_reducible refine box_row (o := ⟨some 1, _, _, _, _, _⟩) rfl _ _ rfl (chC ⟨x, s⟩) rfl ?_); intro w1 hr hb hz; have B1 := Lib.hid hb; obtain ⟨k0, k1⟩ := hr.c2; clear hr hb hz))
    go_ret
    exact ⟨one (vbool (by rw [HO.out]; first | done | rfl | (simp; done) | (simp; omega))), B1.out⟩
  by_cases h3 : s.size = 32
  rotate_left
  · have HO := Lib.hid (show q = false by rw [← hq]; unfold Ch.may; rw [decide_eq_false h3]; simp)
    have g3 : ((s.size : Int) == 32) = false := by simp; omega
    clear hq
    go_enter Tryd.func25, Tryd.ntmps25
    go_wp2_with (first
      | ((with_reducible refine box_row (o := ⟨some 1, _, _, _, _, _⟩) rfl _ _ rfl (chC ⟨x, s⟩) rfl ?_); intro w1 hr hb hz; have B1 := Lib.hid hb; obtain ⟨k0, k1⟩ := hr.c2; clear hr hb hz))
    go_ret
    exact ⟨one (vbool (by rw [HO.out]; first | done | rfl | (simp; done) | (simp; omega))), B1.out⟩
  have HO := Lib.hid (show q = true by rw [← hq]; unfold Ch.may; rw [decide_eq_true h1, decide_eq_true h2, decide_eq_true h3]; rfl)
  have g3 : ((s.size : Int) == 32) = true := by simp; omega
  clear hq
  go_enter Tryd.func25, Tryd.ntmps25
  go_wp2_with (first
    | ((with_reducible refine box_row (o := ⟨some 1, _, _, _, _, _⟩) rfl _ _ rfl (chC ⟨x, s⟩) rfl ?_); intro w1 hr hb hz; have B1 := Lib.hid hb; obtain ⟨k0, k1⟩ := hr.c2; clear hr hb hz))
  go_ret
  exact ⟨one (vbool (by rw [HO.out]; first | done | rfl | (simp; done) | (simp; omega))), B1.out⟩
set_option maxRecDepth 100000 in
set_option maxHeartbeats 16000000 in
theorem zcmay (c : Ch) (w : World) (q : Bool) (hq : c.may = q) (hs : c.hd.size ≤ 9223372036854775807) : Calls Tryd.prog 26 #[.agg (chC c).toArray] w fun e w' => e = .returned (.bool q) ∧ Below w.heap.size w w' := by
  obtain ⟨x, s⟩ := c
  dsimp only at hs
  by_cases h1 : 0 ≤ x
  rotate_left
  · have HO := Lib.hid (show q = false by rw [← hq]; unfold Ch.may; rw [decide_eq_false h1]; rfl)
    clear hq
    go_enter Tryd.func26, Tryd.ntmps26
    go_wp2_with (first
      | ((with_reducible refine box_row (o := ⟨some 1, _, _, _, _, _⟩) rfl _ _ rfl (chC ⟨x, s⟩) rfl ?_); intro w1 hr hb hz; have B1 := Lib.hid hb; obtain ⟨k0, k1⟩ := hr.c2; clear hr hb hz))
    go_ret
    exact ⟨one (vbool (by rw [HO.out]; first | done | rfl | (simp; done) | (simp; omega))), B1.out⟩
  by_cases h2 : x ≤ 4611686018427387904
  rotate_left
  · have HO := Lib.hid (show q = false by rw [← hq]; unfold Ch.may; rw [decide_eq_false h2]; simp)
    have g2 : 4611686018427387904 < x := by omega
    clear hq
    go_enter Tryd.func26, Tryd.ntmps26
    go_wp2_with (first
      | ((with_reducible refine box_row (o := ⟨some 1, _, _, _, _, _⟩) rfl _ _ rfl (chC ⟨x, s⟩) rfl ?_); intro w1 hr hb hz; have B1 := Lib.hid hb; obtain ⟨k0, k1⟩ := hr.c2; clear hr hb hz))
    go_ret
    exact ⟨one (vbool (by rw [HO.out]; first | done | rfl | (simp; done) | (simp; omega))), B1.out⟩
  by_cases h3 : s.size = 32
  rotate_left
  · have HO := Lib.hid (show q = false by rw [← hq]; unfold Ch.may; rw [decide_eq_false h3]; simp)
    have g3 : ((s.size : Int) == 32) = false := by simp; omega
    clear hq
    go_enter Tryd.func26, Tryd.ntmps26
    go_wp2_with (first
      | ((with_reducible refine box_row (o := ⟨some 1, _, _, _, _, _⟩) rfl _ _ rfl (chC ⟨x, s⟩) rfl ?_); intro w1 hr hb hz; have B1 := Lib.hid hb; obtain ⟨k0, k1⟩ := hr.c2; clear hr hb hz))
    go_ret
    exact ⟨one (vbool (by rw [HO.out]; first | done | rfl | (simp; done) | (simp; omega))), B1.out⟩
  have HO := Lib.hid (show q = true by rw [← hq]; unfold Ch.may; rw [decide_eq_true h1, decide_eq_true h2, decide_eq_true h3]; rfl)
  have g3 : ((s.size : Int) == 32) = true := by simp; omega
  clear hq
  go_enter Tryd.func26, Tryd.ntmps26
  go_wp2_with (first
    | ((with_reducible refine box_row (o := ⟨some 1, _, _, _, _, _⟩) rfl _ _ rfl (chC ⟨x, s⟩) rfl ?_); intro w1 hr hb hz; have B1 := Lib.hid hb; obtain ⟨k0, k1⟩ := hr.c2; clear hr hb hz))
  go_ret
  exact ⟨one (vbool (by rw [HO.out]; first | done | rfl | (simp; done) | (simp; omega))), B1.out⟩
set_option maxRecDepth 100000 in
set_option maxHeartbeats 16000000 in
theorem chput (a0 : Option Addr) (m0 c0 : Nat) (S : List UInt8) (c : Ch) (w : World) (hr : Rd w a0 m0 c0 S) (hm0 : m0 ≤ 2000000) (hc : c.fit) :
    Calls Tryd.prog 27 #[.slice a0 m0 c0, .agg (chC c).toArray] w fun x w' => ∃ v, x = .returned v ∧ Fr w' w.heap.size v (S ++ putC c) ∧ Below w.heap.size w w' := by
  obtain ⟨x, s⟩ := c
  have HR := Lib.hid hr
  have hx2 := hc.l.2
  have hs2 := hc.h
  dsimp only at hx2 hs2
  have hSl := hr.hlen
  obtain ⟨T1, hT1⟩ : ∃ T, S ++ enc x.toNat = T := ⟨_, rfl⟩
  obtain ⟨q1, hq1⟩ : ∃ m, T1.length = m := ⟨_, rfl⟩
  have he := P.enc_len x.toNat (by omega)
  have he2 := P.enc_len s.size (by omega)
  have hb1 : q1 ≤ 2000009 := by rw [← hq1, ← hT1]; simp only [List.length_append]; omega
  obtain ⟨T2, hT2⟩ : ∃ T, T1 ++ (enc s.size ++ s.data.toList) = T := ⟨_, rfl⟩
  rw [show S ++ putC ⟨x, s⟩ = T2 by rw [← hT2, ← hT1]; unfold putC; simp]
  obtain ⟨q2, hq2⟩ : ∃ m, T2.length = m := ⟨_, rfl⟩
  have E1 : m0 + (enc x.toNat).length = q1 := by rw [← hq1, ← hT1, List.length_append, hSl]
  have hsl : s.data.toList.length = s.size := rfl
  have E2 : q1 + ((enc s.size).length + s.size) = q2 := by rw [← hq2, ← hT2, List.length_append, List.length_append, hq1, hsl]
  have hb2 : q2 ≤ 3000000 := by omega
  have HN1 : ∀ w', Below w.heap.size w w' → Calls Tryd.prog 43 #[.slice a0 m0 c0, .int .i64 x] w' fun e w'' => e = .returned (.slice (some ⟨w'.heap.size, 0, none⟩) q1 q1) ∧ Blk w'' w'.heap.size T1 ∧ Below w'.heap.size w' w'' ∧ w''.heap.size = w'.heap.size + 1 := fun w' hb => by have q := pnum a0 m0 c0 x S w' (hr.mono hb) hx2 (by omega); rw [E1, hT1] at q; exact q
  have HN2 : ∀ y d w', Rd w' y q1 d T1 → Calls Tryd.prog 42 #[.slice y q1 d, .string s] w' fun e w'' => e = .returned (.slice (some ⟨w'.heap.size, 0, none⟩) q2 q2) ∧ Blk w'' w'.heap.size T2 ∧ Below w'.heap.size w' w'' ∧ w''.heap.size = w'.heap.size + 1 := fun y d w' hrd => by have q := ptext y q1 d s T1 w' hrd (by omega) (by omega); rw [E2, hT2] at q; exact q
  have HN1 := Lib.hid HN1
  have HN2 := Lib.hid HN2
  have Q1 := Lib.hid hq1
  have Q2 := Lib.hid hq2
  clear hr hT1 hT2 hq1 hq2 he he2 hSl E1 E2 hc
  go_enter Tryd.func27, Tryd.ntmps27
  go_wp2_with (first
    | ((with_reducible refine box_row (o := ⟨some 3, _, _, _, _, _⟩) rfl _ _ rfl (chC ⟨x, s⟩) rfl ?_); intro w1 hr hb hz; have R1 := Lib.hid hr; have B1 := Lib.hid hb; obtain ⟨c0', c1⟩ := hr.c2; have C0 := Lib.hid c0'; have C1 := Lib.hid c1; clear c0' c1; clear hr hb hz))
  refine region_h (fun v => Below w1.heap.size w1 v) (by kernel_rfl) (by kernel_rfl) (Below.refl _ _).drew ?_
  obtain ⟨wd, hwd⟩ : ∃ wd, w1.drew = wd := ⟨_, rfl⟩
  have Jwd : Hid (Below w1.heap.size w1 wd) := Lib.hid (by rw [← hwd]; exact (Below.refl _ _).drew)
  rw [hwd]
  clear hwd
  (refine h_read 0 rfl (by kernel_rfl) (by kernel_rfl) (h_free rfl) ?_ ?_ ?_; rotate_left; (focus (intro v hv; go_simp; rfl)); go_simp)
  (refine h_read 1 rfl (by kernel_rfl) (by kernel_rfl) (h_free rfl) ?_ ?_ ?_; rotate_left; (focus (intro v hv; go_simp; rfl)); go_simp)
  (refine h_read 2 rfl (by kernel_rfl) (by kernel_rfl) (h_free rfl) ?_ ?_ ?_; rotate_left; (focus (intro v hv; have y0 := (hv.cell (p := ⟨w.heap.size, 0, none⟩) R1.out.lt).trans C0.out; have y1 := (hv.cell (p := ⟨w.heap.size, 1, none⟩) R1.out.lt).trans C1.out; go_simp; rfl)); go_simp)
  (refine h_read 4 rfl (by kernel_rfl) (by kernel_rfl) (h_free rfl) ?_ ?_ ?_; rotate_left; (focus (intro v hv; go_simp; rfl)); go_simp)
  (refine h_read 5 rfl (by kernel_rfl) (by kernel_rfl) (h_free rfl) ?_ ?_ ?_; rotate_left; (focus (intro v hv; have y0 := (hv.cell (p := ⟨w.heap.size, 0, none⟩) R1.out.lt).trans C0.out; have y1 := (hv.cell (p := ⟨w.heap.size, 1, none⟩) R1.out.lt).trans C1.out; go_simp; rfl)); go_simp)
  (refine h_call 3 rfl (by kernel_rfl) (h_free rfl) 43 ?_ ?_ ?_; rotate_left; (focus (go_simp; rfl)))
  refine (HN1.out wd (B1.out.trans (Jwd.out.mono B1.out.size))).mono ?_
  rintro z w2 ⟨rfl, hbk, hb, -⟩
  have RD2 := Lib.hid (hbk.rd' q1 Q1.out (by omega))
  have J2 := Lib.hid (Jwd.out.trans (hb.mono Jwd.out.size))
  clear hbk hb
  refine ⟨_, rfl, J2.out, ?_⟩
  go_simp
  (refine h_call 6 rfl (by kernel_rfl) (h_free rfl) 42 ?_ ?_ ?_; rotate_left; (focus (go_simp; rfl)))
  refine (HN2.out _ _ w2 RD2.out).mono ?_
  rintro z w3 ⟨rfl, hbk, hb, -⟩
  have J3 := Lib.hid (J2.out.trans (hb.mono J2.out.size))
  have F3 := Lib.hid (show Fr w3 w.heap.size (.slice (some ⟨w2.heap.size, 0, none⟩) q2 q2) T2 by have := hbk.fr (base := w.heap.size) (Nat.le_trans B1.out.size J2.out.size) (by rw [Q2.out]; omega); rw [Q2.out] at this; exact this)
  clear hbk hb
  refine ⟨_, rfl, J3.out, ?_⟩
  go_simp
  (refine h_read 7 rfl (by kernel_rfl) (by kernel_rfl) (h_free rfl) ?_ ?_ ?_; rotate_left; (focus (intro v hv; go_simp; rfl)); go_simp)
  refine h_done (by kernel_rfl) ?_
  go_wp2_with fail
  go_ret
  exact ⟨_, rfl, F3.out, B1.out.trans (J3.out.mono B1.out.size)⟩
set_option maxRecDepth 100000 in
set_option maxHeartbeats 16000000 in
theorem zcput (a0 : Option Addr) (m0 c0 : Nat) (S : List UInt8) (c : Ch) (w : World) (hr : Rd w a0 m0 c0 S) (hm0 : m0 ≤ 2000000) (hc : c.fit) :
    Calls Tryd.prog 29 #[.slice a0 m0 c0, .agg (chC c).toArray] w fun x w' => ∃ v, x = .returned v ∧ Fr w' w.heap.size v (S ++ putC c) ∧ Below w.heap.size w w' := by
  obtain ⟨x, s⟩ := c
  have HR := Lib.hid hr
  have hx2 := hc.l.2
  have hs2 := hc.h
  dsimp only at hx2 hs2
  have hSl := hr.hlen
  obtain ⟨T1, hT1⟩ : ∃ T, S ++ enc x.toNat = T := ⟨_, rfl⟩
  obtain ⟨q1, hq1⟩ : ∃ m, T1.length = m := ⟨_, rfl⟩
  have he := P.enc_len x.toNat (by omega)
  have he2 := P.enc_len s.size (by omega)
  have hb1 : q1 ≤ 2000009 := by rw [← hq1, ← hT1]; simp only [List.length_append]; omega
  obtain ⟨T2, hT2⟩ : ∃ T, T1 ++ (enc s.size ++ s.data.toList) = T := ⟨_, rfl⟩
  rw [show S ++ putC ⟨x, s⟩ = T2 by rw [← hT2, ← hT1]; unfold putC; simp]
  have E1 := Lib.hid hT1
  have E2 := Lib.hid hT2
  have Q1 := Lib.hid hq1
  clear hr hT1 hT2 hq1 he he2 hSl hc
  go_enter Tryd.func29, Tryd.ntmps29
  go_wp2_with (first
    | ((with_reducible refine box_row (o := ⟨some 3, _, _, _, _, _⟩) rfl _ _ rfl (chC ⟨x, s⟩) rfl ?_); intro w1 hr hb hz; have R1 := Lib.hid hr; have B1 := Lib.hid hb; obtain ⟨c0', c1⟩ := hr.c2; have C0 := Lib.hid c0'; have C1 := Lib.hid c1; clear c0' c1; clear hr hb hz))
  refine region_h (fun v => Below w1.heap.size w1 v) (by kernel_rfl) (by kernel_rfl) (Below.refl _ _).drew ?_
  obtain ⟨wd, hwd⟩ : ∃ wd, w1.drew = wd := ⟨_, rfl⟩
  have Jwd : Hid (Below w1.heap.size w1 wd) := Lib.hid (by rw [← hwd]; exact (Below.refl _ _).drew)
  rw [hwd]
  clear hwd
  (refine h_read 0 rfl (by kernel_rfl) (by kernel_rfl) (h_free rfl) ?_ ?_ ?_; rotate_left; (focus (intro v hv; go_simp; rfl)); go_simp)
  (refine h_read 1 rfl (by kernel_rfl) (by kernel_rfl) (h_free rfl) ?_ ?_ ?_; rotate_left; (focus (intro v hv; go_simp; rfl)); go_simp)
  (refine h_read 2 rfl (by kernel_rfl) (by kernel_rfl) (h_free rfl) ?_ ?_ ?_; rotate_left; (focus (intro v hv; have y0 := (hv.cell (p := ⟨w.heap.size, 0, none⟩) R1.out.lt).trans C0.out; have y1 := (hv.cell (p := ⟨w.heap.size, 1, none⟩) R1.out.lt).trans C1.out; go_simp; rfl)); go_simp)
  (refine h_read 4 rfl (by kernel_rfl) (by kernel_rfl) (h_free rfl) ?_ ?_ ?_; rotate_left; (focus (intro v hv; go_simp; rfl)); go_simp)
  (refine h_read 5 rfl (by kernel_rfl) (by kernel_rfl) (h_free rfl) ?_ ?_ ?_; rotate_left; (focus (intro v hv; have y0 := (hv.cell (p := ⟨w.heap.size, 0, none⟩) R1.out.lt).trans C0.out; have y1 := (hv.cell (p := ⟨w.heap.size, 1, none⟩) R1.out.lt).trans C1.out; go_simp; rfl)); go_simp)
  (refine h_call 3 rfl (by kernel_rfl) (h_free rfl) 32 ?_ ?_ ?_; rotate_left; (focus (go_simp; rfl)))
  refine (rnum a0 m0 c0 x S wd (HR.out.mono (B1.out.trans (Jwd.out.mono B1.out.size))) hx2 (by omega)).mono ?_
  rw [E1.out]
  rintro z w2 ⟨v2, rfl, hf, hb⟩
  obtain ⟨a2, c2, rfl, hrd⟩ := hf.form' q1 Q1.out
  have RD2 := Lib.hid hrd
  have J2 := Lib.hid (Jwd.out.trans (hb.mono Jwd.out.size))
  clear hf hb hrd
  refine ⟨_, rfl, J2.out, ?_⟩
  go_simp
  (refine h_call 6 rfl (by kernel_rfl) (h_free rfl) 44 ?_ ?_ ?_; rotate_left; (focus (go_simp; rfl)))
  refine (rtext a2 q1 c2 s T1 w2 RD2.out (by omega) (by omega)).mono ?_
  rw [E2.out]
  rintro z w3 ⟨v3, rfl, hf, hb⟩
  have J3 := Lib.hid (J2.out.trans (hb.mono J2.out.size))
  have F3 := Lib.hid (hf.base (Nat.le_trans B1.out.size J2.out.size))
  clear hf hb
  refine ⟨_, rfl, J3.out, ?_⟩
  go_simp
  (refine h_read 7 rfl (by kernel_rfl) (by kernel_rfl) (h_free rfl) ?_ ?_ ?_; rotate_left; (focus (intro v hv; go_simp; rfl)); go_simp)
  refine h_done (by kernel_rfl) ?_
  go_wp2_with fail
  go_ret
  exact ⟨_, rfl, F3.out, B1.out.trans (J3.out.mono B1.out.size)⟩
theorem textR_size (most : Int) (hm : 0 ≤ most) (l : List UInt8) (e : Int) : ((textR most l e).1.length : Int) ≤ most := by
  by_cases he : e = 0
  · subst he
    by_cases h0 : (textR most l 0).2.2 = 0
    · exact (text_back most l h0).2
    · rw [textR_none h0]; simpa using hm
  · have := textR_err (m := most) (l := l) he
    have h1 : (textR most l e).1 = [] := by unfold textR; rw [numR_err he]; dsimp only; rw [if_pos he]
    rw [h1]; simpa using hm
set_option maxRecDepth 100000 in
set_option maxHeartbeats 16000000 in
theorem chread (p : Nat) (l : List UInt8) (e : Int) (w : World) (h : RP w p l e) :
    Calls Tryd.prog 19 #[.pointer (some ⟨p, 0, none⟩)] w fun x w' => x = .returned (.agg (chC (readC l e).1).toArray) ∧ RP w' p (readC l e).2.1 (readC l e).2.2 ∧ Gw p w w' := by
  have H := Lib.hid h
  have LZS := Lib.hid ch_size
  have LZ := Lib.hid ch_zero
  have hpl := h.lt
  obtain ⟨a, l1, e1, hq1⟩ : ∃ x y z, numR 4611686018427387904 l e = (x, y, z) := ⟨_, _, _, rfl⟩
  obtain ⟨tx, lk, ek, hq2⟩ : ∃ x y z, textR 32 l1 e1 = (x, y, z) := ⟨_, _, _, rfl⟩
  have HQ1 := Lib.hid hq1
  have HQ2 := Lib.hid hq2
  obtain ⟨s, hs⟩ : ∃ s, str tx = s := ⟨_, rfl⟩
  have HS := Lib.hid hs
  have hsz : s.size ≤ 9223372036854775807 := by
    have q := textR_size 32 (by decide) l1 e1
    rw [hq2] at q
    dsimp only at q
    rw [← hs, str_size]; omega
  obtain ⟨ck, hck⟩ : ∃ x, Ch.may ⟨(a : Int), s⟩ = x := ⟨_, rfl⟩
  obtain ⟨Z, hZ2⟩ : ∃ Z, endC ⟨(a : Int), s⟩ (lk, ek) = Z := ⟨_, rfl⟩
  rw [show readC l e = Z by unfold readC; simp only [hq1, hq2, hs]; exact hZ2]
  have HCK := Lib.hid (fun w' => chmay ⟨(a : Int), s⟩ w' ck hck hsz)
  clear h hq1 hq2 hs
  by_cases hek : ek = 0
  · subst hek
    unfold endC at hZ2
    dsimp only at hZ2
    rw [if_pos rfl, hck] at hZ2
    clear hck
    cases ck
    · rw [if_neg (by decide)] at hZ2
      subst hZ2
      have FL := Lib.hid (show failL lk 0 3 = [] by unfold failL; rw [if_neg (by decide)])
      have FE := Lib.hid (show failE 0 3 = 3 by unfold failE; rw [if_neg (by decide)])
      go_enter Tryd.func19, Tryd.ntmps19
      go_wp2_with (first
      | ((with_reducible refine alloc_row (o := ⟨some 2, _, _, _, _, _⟩) rfl _ rfl _ LZ.out ?_); intro w1 hr hb hz; have R1 := Lib.hid hr; have P1 := Lib.hid (H.out.mono hb); have G1 := Lib.hid (Gw.of_below (g := p) hb); have NP := Lib.hid (show p ≠ w.heap.size by omega); clear hr hb hz)
      | (go_at_call 36; (with_reducible refine (pnumR p 4611686018427387904 l e w1 P1.out).mono ?_); rw [HQ1.out]; rintro x w2 ⟨rfl, hP, hu⟩; have P2 := Lib.hid hP; have R2 := Lib.hid (R1.out.upd hu NP.out.symm); have G2 := Lib.hid (G1.out.trans (Gw.upd hu)); clear hP hu)
      | (go_at_call 37; (with_reducible refine (ptextR p 32 l1 e1 w2 P2.out).mono ?_); rw [HQ2.out]; rintro x w3 ⟨rfl, hP, hu⟩; rw [HS.out]; have P6 := Lib.hid hP; have R6 := Lib.hid (R2.out.upd hu NP.out.symm); have G6 := Lib.hid (G2.out.trans (Gw.upd hu)); clear hP hu)
      | ((with_reducible refine build_row (o := ⟨some 8, _, _, _, _, _⟩) rfl _ _ rfl (chC ⟨(a : Int), s⟩) ?_ ?_); (focus (go_simp; exact ch_built _ _)))
      | ((with_reducible refine alloc_row (o := ⟨some 3, _, _, _, _, _⟩) rfl _ rfl _ LZ.out ?_); intro w7 hr hb hz; have T7 := Lib.hid hr; have P7 := Lib.hid (P6.out.mono hb); have R7 := Lib.hid (R6.out.below hb R6.out.lt); have G7 := Lib.hid (G6.out.trans (Gw.of_below hb)); have PT := Lib.hid (Nat.ne_of_lt P6.out.lt); have RT := Lib.hid (Nat.ne_of_lt R6.out.lt); clear hr hb hz)
      | ((with_reducible refine store_row (o := ⟨none, _, _, _, _, _⟩) rfl _ (.tmp 3) _ rfl w3.heap.size (chC ⟨(a : Int), s⟩) ?_ ?_ 23 _ T7.out ?_ ?_ ?_ ?_); (focus go_simp); (focus (first | (go_simp; done) | (go_simp; rfl))); (focus (exact LZS.out)); (focus rfl); (focus (exact ch_one _)); intro w8 hr hu; have T8 := Lib.hid hr; have P8 := Lib.hid (P7.out.putC' PT.out T7.out (nob_ch _) hu); have R8 := Lib.hid (R7.out.upd hu RT.out); have G8 := Lib.hid (G7.out.tail G6.out.size hu); clear hr hu)
      | ((with_reducible refine load_row (o := ⟨some 9, _, _, _, _, _⟩) rfl _ _ rfl w3.heap.size ?_ _ (chC ⟨(a : Int), s⟩) _ T8.out Tryd.underlying23 rfl ?_ ?_); (focus go_simp); (focus (exact LZS.out)))
      | (go_at_call 25; (with_reducible refine (HCK.out w8).mono ?_); rintro x w9 ⟨rfl, hb⟩; have T9 := Lib.hid (T8.out.below hb T8.out.lt); have P9 := Lib.hid (P8.out.mono hb); have R9 := Lib.hid (R8.out.below hb R8.out.lt); have G9 := Lib.hid (G8.out.trans (Gw.of_below hb)); clear hb)
      | (go_at_call 38; (with_reducible refine (pfail p lk 0 3 w9 P9.out).mono ?_); rintro x w10 ⟨rfl, hP, hu⟩; rw [FL.out, FE.out] at hP; have P10 := Lib.hid hP; have R10 := Lib.hid (R9.out.upd hu NP.out.symm); have G10 := Lib.hid (G9.out.trans (Gw.upd hu)); clear hP hu)
      | (go_at_call 21; (with_reducible refine (perr p [] 3 w10 P10.out).mono ?_); rintro x w' ⟨rfl, rfl⟩)
      | ((with_reducible refine build_row (o := ⟨some 17, _, _, _, _, _⟩) rfl _ _ rfl (chC ⟨0, ⟨#[]⟩⟩) ?_ ?_); (focus (go_simp; exact ch_builtZ)))
      | ((with_reducible refine store_row (o := ⟨none, _, _, _, _, _⟩) rfl _ (.tmp 2) _ rfl w.heap.size (chC ⟨0, ⟨#[]⟩⟩) ?_ ?_ 23 _ R10.out ?_ ?_ ?_ ?_); (focus go_simp); (focus (first | (go_simp; done) | (go_simp; rfl))); (focus (exact LZS.out)); (focus rfl); (focus (exact ch_one _)); intro w11 hr hu; have R11 := Lib.hid hr; have P11 := Lib.hid (P10.out.putC' NP.out R10.out (nob_ch _) hu); have G11 := Lib.hid (G10.out.tail (Nat.le_refl _) hu); clear hr hu))
      exact bodyPost_ret (results_cell_row rfl _ _ w.heap.size 23 _ _ _ (by go_simp) R11.out Tryd.underlying23 rfl LZS.out) rfl ⟨rfl, P11.out, G11.out⟩
    · rw [if_pos rfl] at hZ2
      subst hZ2
      go_enter Tryd.func19, Tryd.ntmps19
      go_wp2_with (first
      | ((with_reducible refine alloc_row (o := ⟨some 2, _, _, _, _, _⟩) rfl _ rfl _ LZ.out ?_); intro w1 hr hb hz; have R1 := Lib.hid hr; have P1 := Lib.hid (H.out.mono hb); have G1 := Lib.hid (Gw.of_below (g := p) hb); have NP := Lib.hid (show p ≠ w.heap.size by omega); clear hr hb hz)
      | (go_at_call 36; (with_reducible refine (pnumR p 4611686018427387904 l e w1 P1.out).mono ?_); rw [HQ1.out]; rintro x w2 ⟨rfl, hP, hu⟩; have P2 := Lib.hid hP; have R2 := Lib.hid (R1.out.upd hu NP.out.symm); have G2 := Lib.hid (G1.out.trans (Gw.upd hu)); clear hP hu)
      | (go_at_call 37; (with_reducible refine (ptextR p 32 l1 e1 w2 P2.out).mono ?_); rw [HQ2.out]; rintro x w3 ⟨rfl, hP, hu⟩; rw [HS.out]; have P6 := Lib.hid hP; have R6 := Lib.hid (R2.out.upd hu NP.out.symm); have G6 := Lib.hid (G2.out.trans (Gw.upd hu)); clear hP hu)
      | ((with_reducible refine build_row (o := ⟨some 8, _, _, _, _, _⟩) rfl _ _ rfl (chC ⟨(a : Int), s⟩) ?_ ?_); (focus (go_simp; exact ch_built _ _)))
      | ((with_reducible refine alloc_row (o := ⟨some 3, _, _, _, _, _⟩) rfl _ rfl _ LZ.out ?_); intro w7 hr hb hz; have T7 := Lib.hid hr; have P7 := Lib.hid (P6.out.mono hb); have R7 := Lib.hid (R6.out.below hb R6.out.lt); have G7 := Lib.hid (G6.out.trans (Gw.of_below hb)); have PT := Lib.hid (Nat.ne_of_lt P6.out.lt); have RT := Lib.hid (Nat.ne_of_lt R6.out.lt); clear hr hb hz)
      | ((with_reducible refine store_row (o := ⟨none, _, _, _, _, _⟩) rfl _ (.tmp 3) _ rfl w3.heap.size (chC ⟨(a : Int), s⟩) ?_ ?_ 23 _ T7.out ?_ ?_ ?_ ?_); (focus go_simp); (focus (first | (go_simp; done) | (go_simp; rfl))); (focus (exact LZS.out)); (focus rfl); (focus (exact ch_one _)); intro w8 hr hu; have T8 := Lib.hid hr; have P8 := Lib.hid (P7.out.putC' PT.out T7.out (nob_ch _) hu); have R8 := Lib.hid (R7.out.upd hu RT.out); have G8 := Lib.hid (G7.out.tail G6.out.size hu); clear hr hu)
      | ((with_reducible refine load_row (o := ⟨some 9, _, _, _, _, _⟩) rfl _ _ rfl w3.heap.size ?_ _ (chC ⟨(a : Int), s⟩) _ T8.out Tryd.underlying23 rfl ?_ ?_); (focus go_simp); (focus (exact LZS.out)))
      | (go_at_call 25; (with_reducible refine (HCK.out w8).mono ?_); rintro x w9 ⟨rfl, hb⟩; have T9 := Lib.hid (T8.out.below hb T8.out.lt); have P9 := Lib.hid (P8.out.mono hb); have R9 := Lib.hid (R8.out.below hb R8.out.lt); have G9 := Lib.hid (G8.out.trans (Gw.of_below hb)); clear hb)
      | (go_at_call 21; (with_reducible refine (perr p lk 0 w9 P9.out).mono ?_); rintro x w' ⟨rfl, rfl⟩)
      | ((with_reducible refine load_row (o := ⟨some 18, _, _, _, _, _⟩) rfl _ _ rfl w3.heap.size ?_ _ (chC ⟨(a : Int), s⟩) _ T9.out Tryd.underlying23 rfl ?_ ?_); (focus go_simp); (focus (exact LZS.out)))
      | ((with_reducible refine store_row (o := ⟨none, _, _, _, _, _⟩) rfl _ (.tmp 2) _ rfl w.heap.size (chC ⟨(a : Int), s⟩) ?_ ?_ 23 _ R9.out ?_ ?_ ?_ ?_); (focus go_simp); (focus (first | (go_simp; done) | (go_simp; rfl))); (focus (exact LZS.out)); (focus rfl); (focus (exact ch_one _)); intro w11 hr hu; have R11 := Lib.hid hr; have P11 := Lib.hid (P9.out.putC' NP.out R9.out (nob_ch _) hu); have G11 := Lib.hid (G9.out.tail (Nat.le_refl _) hu); clear hr hu))
      exact bodyPost_ret (results_cell_row rfl _ _ w.heap.size 23 _ _ _ (by go_simp) R11.out Tryd.underlying23 rfl LZS.out) rfl ⟨rfl, P11.out, G11.out⟩
  · have hq : (ek == 0) = false := by simpa using hek
    have hq2 : (ek != 0) = true := by simpa using hek
    have hz2 : Z = (chE, lk, ek) := by rw [← hZ2]; unfold endC; dsimp only; rw [if_neg hek]
    subst hz2
    have FL := Lib.hid (show failL lk ek 3 = lk by unfold failL; rw [if_pos (Or.inl hek)])
    have FE := Lib.hid (show failE ek 3 = ek by unfold failE; rw [if_pos (Or.inl hek)])
    clear hZ2 hck
    cases ck
    · skip
      go_enter Tryd.func19, Tryd.ntmps19
      go_wp2_with (first
      | ((with_reducible refine alloc_row (o := ⟨some 2, _, _, _, _, _⟩) rfl _ rfl _ LZ.out ?_); intro w1 hr hb hz; have R1 := Lib.hid hr; have P1 := Lib.hid (H.out.mono hb); have G1 := Lib.hid (Gw.of_below (g := p) hb); have NP := Lib.hid (show p ≠ w.heap.size by omega); clear hr hb hz)
      | (go_at_call 36; (with_reducible refine (pnumR p 4611686018427387904 l e w1 P1.out).mono ?_); rw [HQ1.out]; rintro x w2 ⟨rfl, hP, hu⟩; have P2 := Lib.hid hP; have R2 := Lib.hid (R1.out.upd hu NP.out.symm); have G2 := Lib.hid (G1.out.trans (Gw.upd hu)); clear hP hu)
      | (go_at_call 37; (with_reducible refine (ptextR p 32 l1 e1 w2 P2.out).mono ?_); rw [HQ2.out]; rintro x w3 ⟨rfl, hP, hu⟩; rw [HS.out]; have P6 := Lib.hid hP; have R6 := Lib.hid (R2.out.upd hu NP.out.symm); have G6 := Lib.hid (G2.out.trans (Gw.upd hu)); clear hP hu)
      | ((with_reducible refine build_row (o := ⟨some 8, _, _, _, _, _⟩) rfl _ _ rfl (chC ⟨(a : Int), s⟩) ?_ ?_); (focus (go_simp; exact ch_built _ _)))
      | ((with_reducible refine alloc_row (o := ⟨some 3, _, _, _, _, _⟩) rfl _ rfl _ LZ.out ?_); intro w7 hr hb hz; have T7 := Lib.hid hr; have P7 := Lib.hid (P6.out.mono hb); have R7 := Lib.hid (R6.out.below hb R6.out.lt); have G7 := Lib.hid (G6.out.trans (Gw.of_below hb)); have PT := Lib.hid (Nat.ne_of_lt P6.out.lt); have RT := Lib.hid (Nat.ne_of_lt R6.out.lt); clear hr hb hz)
      | ((with_reducible refine store_row (o := ⟨none, _, _, _, _, _⟩) rfl _ (.tmp 3) _ rfl w3.heap.size (chC ⟨(a : Int), s⟩) ?_ ?_ 23 _ T7.out ?_ ?_ ?_ ?_); (focus go_simp); (focus (first | (go_simp; done) | (go_simp; rfl))); (focus (exact LZS.out)); (focus rfl); (focus (exact ch_one _)); intro w8 hr hu; have T8 := Lib.hid hr; have P8 := Lib.hid (P7.out.putC' PT.out T7.out (nob_ch _) hu); have R8 := Lib.hid (R7.out.upd hu RT.out); have G8 := Lib.hid (G7.out.tail G6.out.size hu); clear hr hu)
      | ((with_reducible refine load_row (o := ⟨some 9, _, _, _, _, _⟩) rfl _ _ rfl w3.heap.size ?_ _ (chC ⟨(a : Int), s⟩) _ T8.out Tryd.underlying23 rfl ?_ ?_); (focus go_simp); (focus (exact LZS.out)))
      | (go_at_call 25; (with_reducible refine (HCK.out w8).mono ?_); rintro x w9 ⟨rfl, hb⟩; have T9 := Lib.hid (T8.out.below hb T8.out.lt); have P9 := Lib.hid (P8.out.mono hb); have R9 := Lib.hid (R8.out.below hb R8.out.lt); have G9 := Lib.hid (G8.out.trans (Gw.of_below hb)); clear hb)
      | (go_at_call 38; (with_reducible refine (pfail p lk ek 3 w9 P9.out).mono ?_); rintro x w10 ⟨rfl, hP, hu⟩; rw [FL.out, FE.out] at hP; have P10 := Lib.hid hP; have R10 := Lib.hid (R9.out.upd hu NP.out.symm); have G10 := Lib.hid (G9.out.trans (Gw.upd hu)); clear hP hu)
      | (go_at_call 21; (with_reducible refine (perr p lk ek w10 P10.out).mono ?_); rintro x w' ⟨rfl, rfl⟩)
      | ((with_reducible refine build_row (o := ⟨some 17, _, _, _, _, _⟩) rfl _ _ rfl (chC ⟨0, ⟨#[]⟩⟩) ?_ ?_); (focus (go_simp; exact ch_builtZ)))
      | ((with_reducible refine store_row (o := ⟨none, _, _, _, _, _⟩) rfl _ (.tmp 2) _ rfl w.heap.size (chC ⟨0, ⟨#[]⟩⟩) ?_ ?_ 23 _ R10.out ?_ ?_ ?_ ?_); (focus go_simp); (focus (first | (go_simp; done) | (go_simp; rfl))); (focus (exact LZS.out)); (focus rfl); (focus (exact ch_one _)); intro w11 hr hu; have R11 := Lib.hid hr; have P11 := Lib.hid (P10.out.putC' NP.out R10.out (nob_ch _) hu); have G11 := Lib.hid (G10.out.tail (Nat.le_refl _) hu); clear hr hu))
      exact bodyPost_ret (results_cell_row rfl _ _ w.heap.size 23 _ _ _ (by go_simp) R11.out Tryd.underlying23 rfl LZS.out) rfl ⟨rfl, P11.out, G11.out⟩
    · skip
      go_enter Tryd.func19, Tryd.ntmps19
      go_wp2_with (first
      | ((with_reducible refine alloc_row (o := ⟨some 2, _, _, _, _, _⟩) rfl _ rfl _ LZ.out ?_); intro w1 hr hb hz; have R1 := Lib.hid hr; have P1 := Lib.hid (H.out.mono hb); have G1 := Lib.hid (Gw.of_below (g := p) hb); have NP := Lib.hid (show p ≠ w.heap.size by omega); clear hr hb hz)
      | (go_at_call 36; (with_reducible refine (pnumR p 4611686018427387904 l e w1 P1.out).mono ?_); rw [HQ1.out]; rintro x w2 ⟨rfl, hP, hu⟩; have P2 := Lib.hid hP; have R2 := Lib.hid (R1.out.upd hu NP.out.symm); have G2 := Lib.hid (G1.out.trans (Gw.upd hu)); clear hP hu)
      | (go_at_call 37; (with_reducible refine (ptextR p 32 l1 e1 w2 P2.out).mono ?_); rw [HQ2.out]; rintro x w3 ⟨rfl, hP, hu⟩; rw [HS.out]; have P6 := Lib.hid hP; have R6 := Lib.hid (R2.out.upd hu NP.out.symm); have G6 := Lib.hid (G2.out.trans (Gw.upd hu)); clear hP hu)
      | ((with_reducible refine build_row (o := ⟨some 8, _, _, _, _, _⟩) rfl _ _ rfl (chC ⟨(a : Int), s⟩) ?_ ?_); (focus (go_simp; exact ch_built _ _)))
      | ((with_reducible refine alloc_row (o := ⟨some 3, _, _, _, _, _⟩) rfl _ rfl _ LZ.out ?_); intro w7 hr hb hz; have T7 := Lib.hid hr; have P7 := Lib.hid (P6.out.mono hb); have R7 := Lib.hid (R6.out.below hb R6.out.lt); have G7 := Lib.hid (G6.out.trans (Gw.of_below hb)); have PT := Lib.hid (Nat.ne_of_lt P6.out.lt); have RT := Lib.hid (Nat.ne_of_lt R6.out.lt); clear hr hb hz)
      | ((with_reducible refine store_row (o := ⟨none, _, _, _, _, _⟩) rfl _ (.tmp 3) _ rfl w3.heap.size (chC ⟨(a : Int), s⟩) ?_ ?_ 23 _ T7.out ?_ ?_ ?_ ?_); (focus go_simp); (focus (first | (go_simp; done) | (go_simp; rfl))); (focus (exact LZS.out)); (focus rfl); (focus (exact ch_one _)); intro w8 hr hu; have T8 := Lib.hid hr; have P8 := Lib.hid (P7.out.putC' PT.out T7.out (nob_ch _) hu); have R8 := Lib.hid (R7.out.upd hu RT.out); have G8 := Lib.hid (G7.out.tail G6.out.size hu); clear hr hu)
      | ((with_reducible refine load_row (o := ⟨some 9, _, _, _, _, _⟩) rfl _ _ rfl w3.heap.size ?_ _ (chC ⟨(a : Int), s⟩) _ T8.out Tryd.underlying23 rfl ?_ ?_); (focus go_simp); (focus (exact LZS.out)))
      | (go_at_call 25; (with_reducible refine (HCK.out w8).mono ?_); rintro x w9 ⟨rfl, hb⟩; have T9 := Lib.hid (T8.out.below hb T8.out.lt); have P9 := Lib.hid (P8.out.mono hb); have R9 := Lib.hid (R8.out.below hb R8.out.lt); have G9 := Lib.hid (G8.out.trans (Gw.of_below hb)); clear hb)
      | (go_at_call 21; (with_reducible refine (perr p lk ek w9 P9.out).mono ?_); rintro x w' ⟨rfl, rfl⟩)
      | ((with_reducible refine build_row (o := ⟨some 17, _, _, _, _, _⟩) rfl _ _ rfl (chC ⟨0, ⟨#[]⟩⟩) ?_ ?_); (focus (go_simp; exact ch_builtZ)))
      | ((with_reducible refine store_row (o := ⟨none, _, _, _, _, _⟩) rfl _ (.tmp 2) _ rfl w.heap.size (chC ⟨0, ⟨#[]⟩⟩) ?_ ?_ 23 _ R9.out ?_ ?_ ?_ ?_); (focus go_simp); (focus (first | (go_simp; done) | (go_simp; rfl))); (focus (exact LZS.out)); (focus rfl); (focus (exact ch_one _)); intro w11 hr hu; have R11 := Lib.hid hr; have P11 := Lib.hid (P9.out.putC' NP.out R9.out (nob_ch _) hu); have G11 := Lib.hid (G9.out.tail (Nat.le_refl _) hu); clear hr hu))
      exact bodyPost_ret (results_cell_row rfl _ _ w.heap.size 23 _ _ _ (by go_simp) R11.out Tryd.underlying23 rfl LZS.out) rfl ⟨rfl, P11.out, G11.out⟩
set_option maxRecDepth 100000 in
set_option maxHeartbeats 16000000 in
theorem zcread (p : Nat) (l : List UInt8) (e : Int) (w : World) (h : RR w p l e) :
    Calls Tryd.prog 20 #[.pointer (some ⟨p, 0, none⟩)] w fun x w' => x = .returned (.agg (chC (readC l e).1).toArray) ∧ RR w' p (readC l e).2.1 (readC l e).2.2 ∧ Gw p w w' := by
  have H := Lib.hid h
  have LZS := Lib.hid ch_size
  have LZ := Lib.hid ch_zero
  have hpl := h.lt
  obtain ⟨a, l1, e1, hq1⟩ : ∃ x y z, numR 4611686018427387904 l e = (x, y, z) := ⟨_, _, _, rfl⟩
  obtain ⟨tx, lk, ek, hq2⟩ : ∃ x y z, textR 32 l1 e1 = (x, y, z) := ⟨_, _, _, rfl⟩
  have HQ1 := Lib.hid hq1
  have HQ2 := Lib.hid hq2
  obtain ⟨s, hs⟩ : ∃ s, str tx = s := ⟨_, rfl⟩
  have HS := Lib.hid hs
  have hsz : s.size ≤ 9223372036854775807 := by
    have q := textR_size 32 (by decide) l1 e1
    rw [hq2] at q
    dsimp only at q
    rw [← hs, str_size]; omega
  obtain ⟨ck, hck⟩ : ∃ x, Ch.may ⟨(a : Int), s⟩ = x := ⟨_, rfl⟩
  obtain ⟨Z, hZ2⟩ : ∃ Z, endC ⟨(a : Int), s⟩ (lk, ek) = Z := ⟨_, rfl⟩
  rw [show readC l e = Z by unfold readC; simp only [hq1, hq2, hs]; exact hZ2]
  have HCK := Lib.hid (fun w' => zcmay ⟨(a : Int), s⟩ w' ck hck hsz)
  clear h hq1 hq2 hs
  by_cases hek : ek = 0
  · subst hek
    unfold endC at hZ2
    dsimp only at hZ2
    rw [if_pos rfl, hck] at hZ2
    clear hck
    cases ck
    · rw [if_neg (by decide)] at hZ2
      subst hZ2
      go_enter Tryd.func20, Tryd.ntmps20
      go_wp2_with (first
      | ((with_reducible refine alloc_row (o := ⟨some 2, _, _, _, _, _⟩) rfl _ rfl _ LZ.out ?_); intro w1 hr hb hz; have R1 := Lib.hid hr; have P1 := Lib.hid (H.out.mono hb); have G1 := Lib.hid (Gw.of_below (g := p) hb); have NP := Lib.hid (show p ≠ w.heap.size by omega); clear hr hb hz)
      | (go_at_call 39; (with_reducible refine (rnumR p 4611686018427387904 l e w1 P1.out).mono ?_); rw [HQ1.out]; rintro x w2 ⟨rfl, hP, hu⟩; have P2 := Lib.hid hP; have R2 := Lib.hid (R1.out.upd hu NP.out.symm); have G2 := Lib.hid (G1.out.trans (Gw.upd hu)); clear hP hu)
      | ((with_reducible refine build_row (o := ⟨some 6, _, _, _, _, _⟩) rfl _ _ rfl (chC ⟨(a : Int), ⟨#[]⟩⟩) ?_ ?_); (focus (go_simp; exact ch_built0 _)))
      | ((with_reducible refine alloc_row (o := ⟨some 3, _, _, _, _, _⟩) rfl _ rfl _ LZ.out ?_); intro w3 hr hb hz; have T3 := Lib.hid hr; have P3 := Lib.hid (P2.out.mono hb); have R3 := Lib.hid (R2.out.below hb R2.out.lt); have G3 := Lib.hid (G2.out.trans (Gw.of_below hb)); have PT := Lib.hid (Nat.ne_of_lt P2.out.lt); have RT := Lib.hid (Nat.ne_of_lt R2.out.lt); clear hr hb hz)
      | ((with_reducible refine store_row (o := ⟨none, _, _, _, _, _⟩) rfl _ (.tmp 3) _ rfl w2.heap.size (chC ⟨(a : Int), ⟨#[]⟩⟩) ?_ ?_ 23 _ T3.out ?_ ?_ ?_ ?_); (focus go_simp); (focus (first | (go_simp; done) | (go_simp; rfl))); (focus (exact LZS.out)); (focus rfl); (focus (exact ch_one _)); intro w4 hr hu; have T4 := Lib.hid hr; have P4 := Lib.hid (P3.out.putC' PT.out T3.out (nob_ch _) hu); have R4 := Lib.hid (R3.out.upd hu RT.out); have G4 := Lib.hid (G3.out.tail G2.out.size hu); clear hr hu)
      | (go_at_call 40; (with_reducible refine (rtextR p 32 l1 e1 w4 P4.out).mono ?_); rw [HQ2.out]; rintro x w5 ⟨rfl, hP, hu⟩; rw [HS.out]; have P5 := Lib.hid hP; have R5 := Lib.hid (R4.out.upd hu NP.out.symm); have T5 := Lib.hid (T4.out.upd hu PT.out.symm); have G5 := Lib.hid (G4.out.trans (Gw.upd hu)); clear hP hu)
      | ((with_reducible refine store_cell (o := ⟨none, _, _, _, _, _⟩) rfl _ (.tmp 9) _ rfl w2.heap.size 1 (.string s) ?_ ?_ rfl rfl 23 _ T5.out ?_ ?_ ?_); (focus go_simp); (focus (go_simp; first | done | rfl)); (focus (kernel_rfl)); (focus (show 1 < 2; decide)); intro w8 hr hu; have T8 := Lib.hid (show Row w8 w2.heap.size 23 (chC ⟨(a : Int), s⟩) from hr); have P8 := Lib.hid (P5.out.putC' PT.out T5.out (nob_ch _) hu); have R8 := Lib.hid (R5.out.upd hu RT.out); have G8 := Lib.hid (G5.out.tail G2.out.size hu); clear hr hu)
      | (go_at_call 22; (with_reducible refine (rerr p lk 0 w8 P8.out).mono ?_); rintro x w' ⟨rfl, rfl⟩)
      | ((with_reducible refine load_rowg (o := ⟨some 14, _, _, _, _, _⟩) 3 true 13 rfl _ _ rfl w2.heap.size _ (chC ⟨(a : Int), s⟩) _ T8.out Tryd.underlying23 rfl ?_ ?_ ?_ ?_ ?_); (focus rfl); (focus (first | (go_simp; done) | (go_simp; rfl))); (focus (first | (go_simp; done) | (go_simp; rfl))); (focus (exact LZS.out)))
      | (go_at_call 26; (with_reducible refine (HCK.out w8).mono ?_); rintro x w9 ⟨rfl, hb⟩; have T9 := Lib.hid (T8.out.below hb T8.out.lt); have P9 := Lib.hid (P8.out.mono hb); have R9 := Lib.hid (R8.out.below hb R8.out.lt); have G9 := Lib.hid (G8.out.trans (Gw.of_below hb)); clear hb)
      | (go_at_call 41; (with_reducible refine (rfail p lk 0 3 w9 P9.out).mono ?_); rintro x w10 ⟨rfl, hP, hu⟩; have P10 := Lib.hid (show RR w10 p [] 3 from hP); have R10 := Lib.hid (R9.out.upd hu NP.out.symm); have G10 := Lib.hid (G9.out.trans (Gw.upd hu)); clear hP hu)
      | (go_at_call 22; (with_reducible refine (rerr p [] 3 w10 P10.out).mono ?_); rintro x w' ⟨rfl, rfl⟩)
      | ((with_reducible refine build_row (o := ⟨some 23, _, _, _, _, _⟩) rfl _ _ rfl (chC ⟨0, ⟨#[]⟩⟩) ?_ ?_); (focus (go_simp; exact ch_builtZ)))
      | ((with_reducible refine store_row (o := ⟨none, _, _, _, _, _⟩) rfl _ (.tmp 2) _ rfl w.heap.size (chC ⟨0, ⟨#[]⟩⟩) ?_ ?_ 23 _ R10.out ?_ ?_ ?_ ?_); (focus go_simp); (focus (first | (go_simp; done) | (go_simp; rfl))); (focus (exact LZS.out)); (focus rfl); (focus (exact ch_one _)); intro w11 hr hu; have R11 := Lib.hid hr; have P11 := Lib.hid (P10.out.putC' NP.out R10.out (nob_ch _) hu); have G11 := Lib.hid (G10.out.tail (Nat.le_refl _) hu); clear hr hu))
      exact bodyPost_ret (results_cell_row rfl _ _ w.heap.size 23 _ _ _ (by go_simp) R11.out Tryd.underlying23 rfl LZS.out) rfl ⟨rfl, P11.out, G11.out⟩
    · rw [if_pos rfl] at hZ2
      subst hZ2
      go_enter Tryd.func20, Tryd.ntmps20
      go_wp2_with (first
      | ((with_reducible refine alloc_row (o := ⟨some 2, _, _, _, _, _⟩) rfl _ rfl _ LZ.out ?_); intro w1 hr hb hz; have R1 := Lib.hid hr; have P1 := Lib.hid (H.out.mono hb); have G1 := Lib.hid (Gw.of_below (g := p) hb); have NP := Lib.hid (show p ≠ w.heap.size by omega); clear hr hb hz)
      | (go_at_call 39; (with_reducible refine (rnumR p 4611686018427387904 l e w1 P1.out).mono ?_); rw [HQ1.out]; rintro x w2 ⟨rfl, hP, hu⟩; have P2 := Lib.hid hP; have R2 := Lib.hid (R1.out.upd hu NP.out.symm); have G2 := Lib.hid (G1.out.trans (Gw.upd hu)); clear hP hu)
      | ((with_reducible refine build_row (o := ⟨some 6, _, _, _, _, _⟩) rfl _ _ rfl (chC ⟨(a : Int), ⟨#[]⟩⟩) ?_ ?_); (focus (go_simp; exact ch_built0 _)))
      | ((with_reducible refine alloc_row (o := ⟨some 3, _, _, _, _, _⟩) rfl _ rfl _ LZ.out ?_); intro w3 hr hb hz; have T3 := Lib.hid hr; have P3 := Lib.hid (P2.out.mono hb); have R3 := Lib.hid (R2.out.below hb R2.out.lt); have G3 := Lib.hid (G2.out.trans (Gw.of_below hb)); have PT := Lib.hid (Nat.ne_of_lt P2.out.lt); have RT := Lib.hid (Nat.ne_of_lt R2.out.lt); clear hr hb hz)
      | ((with_reducible refine store_row (o := ⟨none, _, _, _, _, _⟩) rfl _ (.tmp 3) _ rfl w2.heap.size (chC ⟨(a : Int), ⟨#[]⟩⟩) ?_ ?_ 23 _ T3.out ?_ ?_ ?_ ?_); (focus go_simp); (focus (first | (go_simp; done) | (go_simp; rfl))); (focus (exact LZS.out)); (focus rfl); (focus (exact ch_one _)); intro w4 hr hu; have T4 := Lib.hid hr; have P4 := Lib.hid (P3.out.putC' PT.out T3.out (nob_ch _) hu); have R4 := Lib.hid (R3.out.upd hu RT.out); have G4 := Lib.hid (G3.out.tail G2.out.size hu); clear hr hu)
      | (go_at_call 40; (with_reducible refine (rtextR p 32 l1 e1 w4 P4.out).mono ?_); rw [HQ2.out]; rintro x w5 ⟨rfl, hP, hu⟩; rw [HS.out]; have P5 := Lib.hid hP; have R5 := Lib.hid (R4.out.upd hu NP.out.symm); have T5 := Lib.hid (T4.out.upd hu PT.out.symm); have G5 := Lib.hid (G4.out.trans (Gw.upd hu)); clear hP hu)
      | ((with_reducible refine store_cell (o := ⟨none, _, _, _, _, _⟩) rfl _ (.tmp 9) _ rfl w2.heap.size 1 (.string s) ?_ ?_ rfl rfl 23 _ T5.out ?_ ?_ ?_); (focus go_simp); (focus (go_simp; first | done | rfl)); (focus (kernel_rfl)); (focus (show 1 < 2; decide)); intro w8 hr hu; have T8 := Lib.hid (show Row w8 w2.heap.size 23 (chC ⟨(a : Int), s⟩) from hr); have P8 := Lib.hid (P5.out.putC' PT.out T5.out (nob_ch _) hu); have R8 := Lib.hid (R5.out.upd hu RT.out); have G8 := Lib.hid (G5.out.tail G2.out.size hu); clear hr hu)
      | (go_at_call 22; (with_reducible refine (rerr p lk 0 w8 P8.out).mono ?_); rintro x w' ⟨rfl, rfl⟩)
      | ((with_reducible refine load_rowg (o := ⟨some 14, _, _, _, _, _⟩) 3 true 13 rfl _ _ rfl w2.heap.size _ (chC ⟨(a : Int), s⟩) _ T8.out Tryd.underlying23 rfl ?_ ?_ ?_ ?_ ?_); (focus rfl); (focus (first | (go_simp; done) | (go_simp; rfl))); (focus (first | (go_simp; done) | (go_simp; rfl))); (focus (exact LZS.out)))
      | (go_at_call 26; (with_reducible refine (HCK.out w8).mono ?_); rintro x w9 ⟨rfl, hb⟩; have T9 := Lib.hid (T8.out.below hb T8.out.lt); have P9 := Lib.hid (P8.out.mono hb); have R9 := Lib.hid (R8.out.below hb R8.out.lt); have G9 := Lib.hid (G8.out.trans (Gw.of_below hb)); clear hb)
      | (go_at_call 22; (with_reducible refine (rerr p lk 0 w9 P9.out).mono ?_); rintro x w' ⟨rfl, rfl⟩)
      | ((with_reducible refine load_row (o := ⟨some 24, _, _, _, _, _⟩) rfl _ _ rfl w2.heap.size ?_ _ (chC ⟨(a : Int), s⟩) _ T9.out Tryd.underlying23 rfl ?_ ?_); (focus go_simp); (focus (exact LZS.out)))
      | ((with_reducible refine store_row (o := ⟨none, _, _, _, _, _⟩) rfl _ (.tmp 2) _ rfl w.heap.size (chC ⟨(a : Int), s⟩) ?_ ?_ 23 _ R9.out ?_ ?_ ?_ ?_); (focus go_simp); (focus (first | (go_simp; done) | (go_simp; rfl))); (focus (exact LZS.out)); (focus rfl); (focus (exact ch_one _)); intro w11 hr hu; have R11 := Lib.hid hr; have P11 := Lib.hid (P9.out.putC' NP.out R9.out (nob_ch _) hu); have G11 := Lib.hid (G9.out.tail (Nat.le_refl _) hu); clear hr hu))
      exact bodyPost_ret (results_cell_row rfl _ _ w.heap.size 23 _ _ _ (by go_simp) R11.out Tryd.underlying23 rfl LZS.out) rfl ⟨rfl, P11.out, G11.out⟩
  · have hq : (ek == 0) = false := by simpa using hek
    have hq2 : (ek != 0) = true := by simpa using hek
    have hz2 : Z = (chE, lk, ek) := by rw [← hZ2]; unfold endC; dsimp only; rw [if_neg hek]
    subst hz2
    clear hZ2 hck HCK
    · skip
      go_enter Tryd.func20, Tryd.ntmps20
      go_wp2_with (first
      | ((with_reducible refine alloc_row (o := ⟨some 2, _, _, _, _, _⟩) rfl _ rfl _ LZ.out ?_); intro w1 hr hb hz; have R1 := Lib.hid hr; have P1 := Lib.hid (H.out.mono hb); have G1 := Lib.hid (Gw.of_below (g := p) hb); have NP := Lib.hid (show p ≠ w.heap.size by omega); clear hr hb hz)
      | (go_at_call 39; (with_reducible refine (rnumR p 4611686018427387904 l e w1 P1.out).mono ?_); rw [HQ1.out]; rintro x w2 ⟨rfl, hP, hu⟩; have P2 := Lib.hid hP; have R2 := Lib.hid (R1.out.upd hu NP.out.symm); have G2 := Lib.hid (G1.out.trans (Gw.upd hu)); clear hP hu)
      | ((with_reducible refine build_row (o := ⟨some 6, _, _, _, _, _⟩) rfl _ _ rfl (chC ⟨(a : Int), ⟨#[]⟩⟩) ?_ ?_); (focus (go_simp; exact ch_built0 _)))
      | ((with_reducible refine alloc_row (o := ⟨some 3, _, _, _, _, _⟩) rfl _ rfl _ LZ.out ?_); intro w3 hr hb hz; have T3 := Lib.hid hr; have P3 := Lib.hid (P2.out.mono hb); have R3 := Lib.hid (R2.out.below hb R2.out.lt); have G3 := Lib.hid (G2.out.trans (Gw.of_below hb)); have PT := Lib.hid (Nat.ne_of_lt P2.out.lt); have RT := Lib.hid (Nat.ne_of_lt R2.out.lt); clear hr hb hz)
      | ((with_reducible refine store_row (o := ⟨none, _, _, _, _, _⟩) rfl _ (.tmp 3) _ rfl w2.heap.size (chC ⟨(a : Int), ⟨#[]⟩⟩) ?_ ?_ 23 _ T3.out ?_ ?_ ?_ ?_); (focus go_simp); (focus (first | (go_simp; done) | (go_simp; rfl))); (focus (exact LZS.out)); (focus rfl); (focus (exact ch_one _)); intro w4 hr hu; have T4 := Lib.hid hr; have P4 := Lib.hid (P3.out.putC' PT.out T3.out (nob_ch _) hu); have R4 := Lib.hid (R3.out.upd hu RT.out); have G4 := Lib.hid (G3.out.tail G2.out.size hu); clear hr hu)
      | (go_at_call 40; (with_reducible refine (rtextR p 32 l1 e1 w4 P4.out).mono ?_); rw [HQ2.out]; rintro x w5 ⟨rfl, hP, hu⟩; rw [HS.out]; have P5 := Lib.hid hP; have R5 := Lib.hid (R4.out.upd hu NP.out.symm); have T5 := Lib.hid (T4.out.upd hu PT.out.symm); have G5 := Lib.hid (G4.out.trans (Gw.upd hu)); clear hP hu)
      | ((with_reducible refine store_cell (o := ⟨none, _, _, _, _, _⟩) rfl _ (.tmp 9) _ rfl w2.heap.size 1 (.string s) ?_ ?_ rfl rfl 23 _ T5.out ?_ ?_ ?_); (focus go_simp); (focus (go_simp; first | done | rfl)); (focus (kernel_rfl)); (focus (show 1 < 2; decide)); intro w8 hr hu; have T8 := Lib.hid (show Row w8 w2.heap.size 23 (chC ⟨(a : Int), s⟩) from hr); have P8 := Lib.hid (P5.out.putC' PT.out T5.out (nob_ch _) hu); have R8 := Lib.hid (R5.out.upd hu RT.out); have G8 := Lib.hid (G5.out.tail G2.out.size hu); clear hr hu)
      | (go_at_call 22; (with_reducible refine (rerr p lk ek w8 P8.out).mono ?_); rintro x w' ⟨rfl, rfl⟩)
      | ((with_reducible refine build_row (o := ⟨some 23, _, _, _, _, _⟩) rfl _ _ rfl (chC ⟨0, ⟨#[]⟩⟩) ?_ ?_); (focus (go_simp; exact ch_builtZ)))
      | ((with_reducible refine store_row (o := ⟨none, _, _, _, _, _⟩) rfl _ (.tmp 2) _ rfl w.heap.size (chC ⟨0, ⟨#[]⟩⟩) ?_ ?_ 23 _ R8.out ?_ ?_ ?_ ?_); (focus go_simp); (focus (first | (go_simp; done) | (go_simp; rfl))); (focus (exact LZS.out)); (focus rfl); (focus (exact ch_one _)); intro w11 hr hu; have R11 := Lib.hid hr; have P11 := Lib.hid (P8.out.putC' NP.out R8.out (nob_ch _) hu); have G11 := Lib.hid (G8.out.tail (Nat.le_refl _) hu); clear hr hu))
      exact bodyPost_ret (results_cell_row rfl _ _ w.heap.size 23 _ _ _ (by go_simp) R11.out Tryd.underlying23 rfl LZS.out) rfl ⟨rfl, P11.out, G11.out⟩
end Go.Proofs.YtnkpcolkhmphmaaDoor.W
