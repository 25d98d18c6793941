/- LAYER 19 (ledger): the law Back, out of contracts. -/
import Derived.Test.YtiopcojkdglapaaLdH
set_option linter.unusedSimpArgs false
set_option linter.unusedVariables false
namespace Go.Proofs.Ytiopcojkdglapaa.W
open Go Go.ChangeShapes Go.WideShapes Go.ChangeAt Go.RowKit
open Go.Proofs.Ytiopcojkdglapaa.P (enc dec)

abbrev LdSameP (f : FuncId) : Prop := ∀ (v x : Value) (l m : Ld) (w : World) (V : Bool), LdV w v l → LdV w x m → (V = true ↔ l = m) → Calls Try.prog f #[v, x] w fun e w' => e = .returned (.bool V) ∧ Below w.heap.size w w'
set_option maxRecDepth 100000 in
set_option maxHeartbeats 16000000 in
theorem back_of19 (hP : LdP) (hC : LdCheckP 41) (hS : LdSameP 50) (v : Value) (l : Ld) (x : Hd) (w : World) (h : LdI w v l) (hx : x.fit) :
    Calls Try.prog 9 #[v, .agg x.cells.toArray] w fun e w' => e = .returned (.bool true) ∧ Below w.heap.size w w' := by
  obtain ⟨⟨a, n, c, rfl, hl⟩, hi⟩ := h
  have LZS := Lib.hid ld_size
  have LZ := Lib.hid ld_zero
  have HSZ := Lib.hid hd_size
  have HA := Lib.hid (awake19 hP)
  have HV := Lib.hid (fun w' (hb : Below w.heap.size w w') => (show LdV w' (.agg (ldC l.q l.u l.h l.n a n c).toArray) l from ⟨a, n, c, rfl, hl.mono hdOk hb⟩))
  have FEW := Lib.hid (fun w' (hb : Below w.heap.size w w') => few19 _ l w' (HV.out w' hb))
  have CHK := Lib.hid (fun w' (hb : Below w.heap.size w w') => hC _ l w' ⟨HV.out w' hb, hi⟩)
  have SM := Lib.hid (fun v x l m w a b (c : l = m) => hS v x l m w true a b ⟨fun _ => c, fun _ => rfl⟩)
  obtain ⟨fw, hfw⟩ : ∃ b, decide (l.L.length ≤ 30) = b := ⟨_, rfl⟩
  have HFW := Lib.hid hfw
  rcases fw with _ | _
  · clear hfw hS hC hl hi
    obtain ⟨i1, i2, i3, i4, i5, sp⟩ := x
    go_enter Try.func9, Try.ntmps9
    go_wp2_with (first
      | ((with_reducible refine box_row (o := ⟨some 2, _, _, _, _, _⟩) rfl _ _ rfl (ldC l.q l.u l.h l.n a n c) rfl ?_); intro w1 hr hb hz; have R1 := Lib.hid hr; have B1 := Lib.hid hb; have S1 := Lib.hid (show w.heap.size < w1.heap.size by omega); clear hr hb hz)
      | ((with_reducible refine box_row (o := ⟨some 3, _, _, _, _, _⟩) rfl _ _ rfl [.int .i64 i1, .int .i64 i2, .int .i64 i3, .int .i64 i4, .int .i64 i5, .string sp] rfl ?_); intro w2 hr hb hz; have RH2 := Lib.hid hr; have R2 := Lib.hid (R1.out.below hb R1.out.lt); have B2 := Lib.hid (B1.out.trans (hb.mono B1.out.size)); clear hr hb hz)
      | ((with_reducible refine load_row (o := ⟨some 10, _, _, _, _, _⟩) rfl _ _ rfl w.heap.size ?_ _ (ldC l.q l.u l.h l.n a n c) _ R2.out Try.underlying50 rfl ?_ ?_); (focus go_simp); (focus (exact LZS.out)))
      | (go_at_call 40; (with_reducible refine (FEW.out w2 B2.out).mono ?_); rw [HFW.out]; rintro e w3 ⟨rfl, hb⟩; have R3 := Lib.hid (R2.out.below hb R2.out.lt); have RH3 := Lib.hid (RH2.out.below hb RH2.out.lt); have B3 := Lib.hid (B2.out.trans (hb.mono B2.out.size)); clear hb)
      | ((with_reducible refine load_rowg (o := ⟨some 14, _, _, _, _, _⟩) 3 false 13 rfl _ _ rfl w.heap.size _ (ldC l.q l.u l.h l.n a n c) _ R3.out Try.underlying50 rfl ?_ ?_ ?_ ?_ ?_); (focus rfl); (focus go_simp); (focus go_simp); (focus (exact LZS.out)))
      | (go_at_call 41; (with_reducible refine (CHK.out w3 B3.out).mono ?_); rw [HCK.out]; rintro e w4 ⟨rfl, hb⟩; have R4 := Lib.hid (R3.out.below hb R3.out.lt); have RH4 := Lib.hid (RH3.out.below hb RH3.out.lt); have B4 := Lib.hid (B3.out.trans (hb.mono B3.out.size)); clear hb)
      | (go_at_call 43; (with_reducible refine (HA.out _).mono ?_); rintro e w4 ⟨rfl, hb⟩; have B4 := Lib.hid (B3.out.trans (hb.mono B3.out.size)); clear hb))
    go_ret
    exact ⟨by first | rfl | exact one (vbool (by simp)), B4.out⟩
  clear hfw
  obtain ⟨ok, hok⟩ : ∃ b, l.ok = b := ⟨_, rfl⟩
  have HCK := Lib.hid hok
  rcases ok with _ | _
  · clear hok hS hC hl hi
    obtain ⟨i1, i2, i3, i4, i5, sp⟩ := x
    go_enter Try.func9, Try.ntmps9
    go_wp2_with (first
      | ((with_reducible refine box_row (o := ⟨some 2, _, _, _, _, _⟩) rfl _ _ rfl (ldC l.q l.u l.h l.n a n c) rfl ?_); intro w1 hr hb hz; have R1 := Lib.hid hr; have B1 := Lib.hid hb; have S1 := Lib.hid (show w.heap.size < w1.heap.size by omega); clear hr hb hz)
      | ((with_reducible refine box_row (o := ⟨some 3, _, _, _, _, _⟩) rfl _ _ rfl [.int .i64 i1, .int .i64 i2, .int .i64 i3, .int .i64 i4, .int .i64 i5, .string sp] rfl ?_); intro w2 hr hb hz; have RH2 := Lib.hid hr; have R2 := Lib.hid (R1.out.below hb R1.out.lt); have B2 := Lib.hid (B1.out.trans (hb.mono B1.out.size)); clear hr hb hz)
      | ((with_reducible refine load_row (o := ⟨some 10, _, _, _, _, _⟩) rfl _ _ rfl w.heap.size ?_ _ (ldC l.q l.u l.h l.n a n c) _ R2.out Try.underlying50 rfl ?_ ?_); (focus go_simp); (focus (exact LZS.out)))
      | (go_at_call 40; (with_reducible refine (FEW.out w2 B2.out).mono ?_); rw [HFW.out]; rintro e w3 ⟨rfl, hb⟩; have R3 := Lib.hid (R2.out.below hb R2.out.lt); have RH3 := Lib.hid (RH2.out.below hb RH2.out.lt); have B3 := Lib.hid (B2.out.trans (hb.mono B2.out.size)); clear hb)
      | ((with_reducible refine load_rowg (o := ⟨some 14, _, _, _, _, _⟩) 3 false 13 rfl _ _ rfl w.heap.size _ (ldC l.q l.u l.h l.n a n c) _ R3.out Try.underlying50 rfl ?_ ?_ ?_ ?_ ?_); (focus rfl); (focus go_simp); (focus go_simp); (focus (exact LZS.out)))
      | (go_at_call 41; (with_reducible refine (CHK.out w3 B3.out).mono ?_); rw [HCK.out]; rintro e w4 ⟨rfl, hb⟩; have R4 := Lib.hid (R3.out.below hb R3.out.lt); have RH4 := Lib.hid (RH3.out.below hb RH3.out.lt); have B4 := Lib.hid (B3.out.trans (hb.mono B3.out.size)); clear hb)
      | (go_at_call 43; (with_reducible refine (HA.out _).mono ?_); rintro e w5 ⟨rfl, hb⟩; have B5 := Lib.hid (B4.out.trans (hb.mono B4.out.size)); clear hb))
    go_ret
    exact ⟨by first | rfl | exact one (vbool (by simp)), B5.out⟩
  have OK := Lib.hid (ok_ld.1 hok)
  have RSV := Lib.hid (fun w' (hb : Below w.heap.size w w') => hP.reserve _ l x w' (HV.out w' hb) OK.out hx)
  obtain ⟨m, i, e, hm⟩ : ∃ m i e, l.reserve x = (m, i, e) := ⟨_, _, _, rfl⟩
  have HM := Lib.hid hm
  by_cases he : e = 0
  · subst he
    have h0 := back19 OK.out x (by rw [hm])
    have hmo := reserve_ok OK.out x
    rw [hm] at h0 hmo
    dsimp only at h0 hmo
    obtain ⟨r, f, hr⟩ : ∃ r f, m.release i = (r, f) := ⟨_, _, rfl⟩
    rw [hr] at h0
    obtain ⟨hf, hr2, hh⟩ := h0
    dsimp only at hf hr2
    subst hf
    have HR := Lib.hid hr
    have HEQ := Lib.hid (show (⟨r.q, r.u, r.h, l.n, r.L⟩ : Ld) = l from hr2)
    have RLS := Lib.hid (fun w' v (h : LdV w' v m) => hP.release v m i w' h hmo)
    have hmh := hmo.h
    have hlh := OK.out.h
    clear hr hr2 hm hok hS hC hl hi hP hmo hx
    obtain ⟨i1, i2, i3, i4, i5, sp⟩ := x
    have hh : m.h - l.h = i3 := hh
    have hw : IntKind.i64.wrap (m.h - l.h) = i3 := by rw [IntKind.wrap_i64]; omega
    go_enter Try.func9, Try.ntmps9
    go_wp2_with (first
      | ((with_reducible refine box_row (o := ⟨some 2, _, _, _, _, _⟩) rfl _ _ rfl (ldC l.q l.u l.h l.n a n c) rfl ?_); intro w1 hr hb hz; have R1 := Lib.hid hr; have B1 := Lib.hid hb; have S1 := Lib.hid (show w.heap.size < w1.heap.size by omega); clear hr hb hz)
      | ((with_reducible refine box_row (o := ⟨some 3, _, _, _, _, _⟩) rfl _ _ rfl [.int .i64 i1, .int .i64 i2, .int .i64 i3, .int .i64 i4, .int .i64 i5, .string sp] rfl ?_); intro w2 hr hb hz; have RH2 := Lib.hid hr; have R2 := Lib.hid (R1.out.below hb R1.out.lt); have B2 := Lib.hid (B1.out.trans (hb.mono B1.out.size)); clear hr hb hz)
      | ((with_reducible refine load_row (o := ⟨some 10, _, _, _, _, _⟩) rfl _ _ rfl w.heap.size ?_ _ (ldC l.q l.u l.h l.n a n c) _ R2.out Try.underlying50 rfl ?_ ?_); (focus go_simp); (focus (exact LZS.out)))
      | (go_at_call 40; (with_reducible refine (FEW.out w2 B2.out).mono ?_); rw [HFW.out]; rintro e w3 ⟨rfl, hb⟩; have R3 := Lib.hid (R2.out.below hb R2.out.lt); have RH3 := Lib.hid (RH2.out.below hb RH2.out.lt); have B3 := Lib.hid (B2.out.trans (hb.mono B2.out.size)); clear hb)
      | ((with_reducible refine load_rowg (o := ⟨some 14, _, _, _, _, _⟩) 3 false 13 rfl _ _ rfl w.heap.size _ (ldC l.q l.u l.h l.n a n c) _ R3.out Try.underlying50 rfl ?_ ?_ ?_ ?_ ?_); (focus rfl); (focus go_simp); (focus go_simp); (focus (exact LZS.out)))
      | (go_at_call 41; (with_reducible refine (CHK.out w3 B3.out).mono ?_); rw [HCK.out]; rintro e w4 ⟨rfl, hb⟩; have R4 := Lib.hid (R3.out.below hb R3.out.lt); have RH4 := Lib.hid (RH3.out.below hb RH3.out.lt); have B4 := Lib.hid (B3.out.trans (hb.mono B3.out.size)); clear hb)
      | ((with_reducible refine load_row (o := ⟨some 20, _, _, _, _, _⟩) rfl _ _ rfl w.heap.size ?_ _ (ldC l.q l.u l.h l.n a n c) _ R4.out Try.underlying50 rfl ?_ ?_); (focus go_simp); (focus (exact LZS.out)))
      | ((with_reducible refine load_row (o := ⟨some 21, _, _, _, _, _⟩) rfl _ _ rfl w1.heap.size ?_ _ [.int .i64 i1, .int .i64 i2, .int .i64 i3, .int .i64 i4, .int .i64 i5, .string sp] _ RH4.out Try.underlying52 rfl ?_ ?_); (focus go_simp); (focus (exact HSZ.out)))
      | (go_at_call 49; (with_reducible refine (RSV.out w4 B4.out).mono ?_); rw [HM.out]; rintro e w5 ⟨v5, rfl, ⟨a5, n5, c5, rfl, hl⟩, hb⟩; have L5 := Lib.hid hl; have R5 := Lib.hid (R4.out.below hb R4.out.lt); have RH5 := Lib.hid (RH4.out.below hb RH4.out.lt); have B5 := Lib.hid (B4.out.trans (hb.mono B4.out.size)); clear hl hb)
      | ((with_reducible refine alloc_row (o := ⟨some 5, _, _, _, _, _⟩) rfl _ rfl _ LZ.out ?_); intro w6 hr hb hz; have RA6 := Lib.hid hr; have R6 := Lib.hid (R5.out.below hb R5.out.lt); have RH6 := Lib.hid (RH5.out.below hb RH5.out.lt); have L6 := Lib.hid (L5.out.mono hdOk hb); have B6 := Lib.hid (B5.out.trans (hb.mono B5.out.size)); clear hr hb hz)
      | ((with_reducible refine store_row (o := ⟨none, _, _, _, _, _⟩) rfl _ (.tmp 5) _ rfl w5.heap.size (ldC m.q m.u m.h m.n a5 n5 c5) ?_ ?_ 50 _ RA6.out ?_ ?_ ?_ ?_); (focus go_simp); (focus (first | (go_simp; done) | (go_simp; rfl))); (focus (exact LZS.out)); (focus rfl); (focus (exact ld_one _ _ _ _ _ _ _)); intro w7 hr hu; have RA7 := Lib.hid hr; have R7 := Lib.hid (R6.out.upd hu (Nat.ne_of_lt R5.out.lt)); have RH7 := Lib.hid (RH6.out.upd hu (Nat.ne_of_lt RH5.out.lt)); have VA7 := Lib.hid (show LdV w7 (.agg (ldC m.q m.u m.h m.n a5 n5 c5).toArray) m from ⟨_, _, _, rfl, L6.out.upd5 RA6.out (show 5 ≤ 5 from Nat.le_refl 5) hu⟩); have B7 := Lib.hid (B6.out.trans (hu.below B5.out.size)); clear hr hu)
      | ((with_reducible refine load_row (o := ⟨some 39, _, _, _, _, _⟩) rfl _ _ rfl w5.heap.size ?_ _ (ldC m.q m.u m.h m.n a5 n5 c5) _ RA7.out Try.underlying50 rfl ?_ ?_); (focus go_simp); (focus (exact LZS.out)))
      | (go_at_call 51; (with_reducible refine (RLS.out w7 _ VA7.out).mono ?_); rw [HR.out]; rintro e w8 ⟨v8, rfl, ⟨a8, n8, c8, rfl, hl⟩, hb⟩; have L8 := Lib.hid hl; have R8 := Lib.hid (R7.out.below hb R7.out.lt); have RH8 := Lib.hid (RH7.out.below hb RH7.out.lt); have RA8 := Lib.hid (RA7.out.below hb RA7.out.lt); have B8 := Lib.hid (B7.out.trans (hb.mono B7.out.size)); clear hl hb)
      | ((with_reducible refine alloc_row (o := ⟨some 8, _, _, _, _, _⟩) rfl _ rfl _ LZ.out ?_); intro w9 hr hb hz; have RB9 := Lib.hid hr; have R9 := Lib.hid (R8.out.below hb R8.out.lt); have RH9 := Lib.hid (RH8.out.below hb RH8.out.lt); have RA9 := Lib.hid (RA8.out.below hb RA8.out.lt); have L9 := Lib.hid (L8.out.mono hdOk hb); have B9 := Lib.hid (B8.out.trans (hb.mono B8.out.size)); clear hr hb hz)
      | ((with_reducible refine store_row (o := ⟨none, _, _, _, _, _⟩) rfl _ (.tmp 8) _ rfl w8.heap.size (ldC r.q r.u r.h r.n a8 n8 c8) ?_ ?_ 50 _ RB9.out ?_ ?_ ?_ ?_); (focus go_simp); (focus (first | (go_simp; done) | (go_simp; rfl))); (focus (exact LZS.out)); (focus rfl); (focus (exact ld_one _ _ _ _ _ _ _)); intro wA hr hu; have RBA := Lib.hid hr; have RAA := Lib.hid (RA9.out.upd hu (Nat.ne_of_lt RA8.out.lt)); have RA1 := Lib.hid (R9.out.upd hu (Nat.ne_of_lt R8.out.lt)); have RHA := Lib.hid (RH9.out.upd hu (Nat.ne_of_lt RH8.out.lt)); have LA := Lib.hid (L9.out.upd5 RB9.out (show 5 ≤ 5 from Nat.le_refl 5) hu); have BA := Lib.hid (B9.out.trans (hu.below B8.out.size)); obtain ⟨c0, c1, c2, c3, c4⟩ := RA1.out.l5; clear hr hu)
      | ((with_reducible refine store_cell (o := ⟨none, _, _, _, _, _⟩) rfl _ (.tmp 46) _ rfl w8.heap.size 3 (.int .i64 l.n) ?_ ?_ rfl rfl 50 _ RBA.out ?_ ?_ ?_); (focus go_simp); (focus (go_simp; first | done | rfl)); (focus (kernel_rfl)); (focus (show 3 < 5; decide)); intro wB hr hu; have RBB := Lib.hid (show Row wB w8.heap.size 50 (ldC r.q r.u r.h l.n a8 n8 c8) from hr); have RAB := Lib.hid (RAA.out.upd hu (Nat.ne_of_lt RA8.out.lt)); have R1B := Lib.hid (RA1.out.upd hu (Nat.ne_of_lt R8.out.lt)); have RHB := Lib.hid (RHA.out.upd hu (Nat.ne_of_lt RH8.out.lt)); have BB := Lib.hid (BA.out.trans (hu.below B8.out.size)); have VBB := Lib.hid (show LdV wB (.agg (ldC r.q r.u r.h l.n a8 n8 c8).toArray) ⟨r.q, r.u, r.h, l.n, r.L⟩ from ⟨_, _, _, rfl, LA.out.upd5 RBA.out (show 5 ≤ 5 from Nat.le_refl 5) hu⟩); have VLB := Lib.hid (HV.out wB BB.out); clear c0 c1 c2 c3 c4; obtain ⟨c0, c1, c2, c3, c4⟩ := R1B.out.l5; obtain ⟨d0, d1, d2, d3, d4⟩ := RAB.out.l5; obtain ⟨e0, e1, e2, e3, e4, e5⟩ := RHB.out.h6; clear hr hu)
      | ((with_reducible refine load_rowg (o := ⟨some 60, _, _, _, _, _⟩) 12 true 59 rfl _ _ rfl w8.heap.size _ (ldC r.q r.u r.h l.n a8 n8 c8) _ RBB.out Try.underlying50 rfl ?_ ?_ ?_ ?_ ?_); (focus rfl); (focus go_simp); (focus go_simp); (focus (exact LZS.out)))
      | ((with_reducible refine load_rowg (o := ⟨some 61, _, _, _, _, _⟩) 12 true 59 rfl _ _ rfl w.heap.size _ (ldC l.q l.u l.h l.n a n c) _ R1B.out Try.underlying50 rfl ?_ ?_ ?_ ?_ ?_); (focus rfl); (focus go_simp); (focus go_simp); (focus (exact LZS.out)))
      | (go_at_call 50; (with_reducible refine (SM.out _ _ _ l wB VBB.out VLB.out HEQ.out).mono ?_); rintro e wC ⟨rfl, hb⟩; have BC := Lib.hid (BB.out.trans (hb.mono BB.out.size)); clear hb)
      | (go_at_call 43; (with_reducible refine (HA.out _).mono ?_); rintro e wD ⟨rfl, hb⟩; have BD := Lib.hid (BC.out.trans (hb.mono BC.out.size)); clear hb))
    go_ret
    exact ⟨by first | rfl | exact one (vbool (by simp)), BD.out⟩
  · have hb := back19_bad x (by rw [hm]; exact he)
    rw [hm] at hb
    obtain ⟨hb1, hb2⟩ := hb
    dsimp only at hb1 hb2
    have HEQ := Lib.hid hb1
    clear hb1 hm hok hS hC hl hi hP hx
    subst hb2
    obtain ⟨i1, i2, i3, i4, i5, sp⟩ := x
    go_enter Try.func9, Try.ntmps9
    go_wp2_with (first
      | ((with_reducible refine box_row (o := ⟨some 2, _, _, _, _, _⟩) rfl _ _ rfl (ldC l.q l.u l.h l.n a n c) rfl ?_); intro w1 hr hb hz; have R1 := Lib.hid hr; have B1 := Lib.hid hb; have S1 := Lib.hid (show w.heap.size < w1.heap.size by omega); clear hr hb hz)
      | ((with_reducible refine box_row (o := ⟨some 3, _, _, _, _, _⟩) rfl _ _ rfl [.int .i64 i1, .int .i64 i2, .int .i64 i3, .int .i64 i4, .int .i64 i5, .string sp] rfl ?_); intro w2 hr hb hz; have RH2 := Lib.hid hr; have R2 := Lib.hid (R1.out.below hb R1.out.lt); have B2 := Lib.hid (B1.out.trans (hb.mono B1.out.size)); clear hr hb hz)
      | ((with_reducible refine load_row (o := ⟨some 10, _, _, _, _, _⟩) rfl _ _ rfl w.heap.size ?_ _ (ldC l.q l.u l.h l.n a n c) _ R2.out Try.underlying50 rfl ?_ ?_); (focus go_simp); (focus (exact LZS.out)))
      | (go_at_call 40; (with_reducible refine (FEW.out w2 B2.out).mono ?_); rw [HFW.out]; rintro e w3 ⟨rfl, hb⟩; have R3 := Lib.hid (R2.out.below hb R2.out.lt); have RH3 := Lib.hid (RH2.out.below hb RH2.out.lt); have B3 := Lib.hid (B2.out.trans (hb.mono B2.out.size)); clear hb)
      | ((with_reducible refine load_rowg (o := ⟨some 14, _, _, _, _, _⟩) 3 false 13 rfl _ _ rfl w.heap.size _ (ldC l.q l.u l.h l.n a n c) _ R3.out Try.underlying50 rfl ?_ ?_ ?_ ?_ ?_); (focus rfl); (focus go_simp); (focus go_simp); (focus (exact LZS.out)))
      | (go_at_call 41; (with_reducible refine (CHK.out w3 B3.out).mono ?_); rw [HCK.out]; rintro e w4 ⟨rfl, hb⟩; have R4 := Lib.hid (R3.out.below hb R3.out.lt); have RH4 := Lib.hid (RH3.out.below hb RH3.out.lt); have B4 := Lib.hid (B3.out.trans (hb.mono B3.out.size)); clear hb)
      | ((with_reducible refine load_row (o := ⟨some 20, _, _, _, _, _⟩) rfl _ _ rfl w.heap.size ?_ _ (ldC l.q l.u l.h l.n a n c) _ R4.out Try.underlying50 rfl ?_ ?_); (focus go_simp); (focus (exact LZS.out)))
      | ((with_reducible refine load_row (o := ⟨some 21, _, _, _, _, _⟩) rfl _ _ rfl w1.heap.size ?_ _ [.int .i64 i1, .int .i64 i2, .int .i64 i3, .int .i64 i4, .int .i64 i5, .string sp] _ RH4.out Try.underlying52 rfl ?_ ?_); (focus go_simp); (focus (exact HSZ.out)))
      | (go_at_call 49; (with_reducible refine (RSV.out w4 B4.out).mono ?_); rw [HM.out]; rintro e w5 ⟨v5, rfl, ⟨a5, n5, c5, rfl, hl⟩, hb⟩; have L5 := Lib.hid hl; have R5 := Lib.hid (R4.out.below hb R4.out.lt); have RH5 := Lib.hid (RH4.out.below hb RH4.out.lt); have B5 := Lib.hid (B4.out.trans (hb.mono B4.out.size)); clear hl hb)
      | ((with_reducible refine alloc_row (o := ⟨some 5, _, _, _, _, _⟩) rfl _ rfl _ LZ.out ?_); intro w6 hr hb hz; have RA6 := Lib.hid hr; have R6 := Lib.hid (R5.out.below hb R5.out.lt); have RH6 := Lib.hid (RH5.out.below hb RH5.out.lt); have L6 := Lib.hid (L5.out.mono hdOk hb); have B6 := Lib.hid (B5.out.trans (hb.mono B5.out.size)); clear hr hb hz)
      | ((with_reducible refine store_row (o := ⟨none, _, _, _, _, _⟩) rfl _ (.tmp 5) _ rfl w5.heap.size (ldC m.q m.u m.h m.n a5 n5 c5) ?_ ?_ 50 _ RA6.out ?_ ?_ ?_ ?_); (focus go_simp); (focus (first | (go_simp; done) | (go_simp; rfl))); (focus (exact LZS.out)); (focus rfl); (focus (exact ld_one _ _ _ _ _ _ _)); intro w7 hr hu; have RA7 := Lib.hid hr; have R7 := Lib.hid (R6.out.upd hu (Nat.ne_of_lt R5.out.lt)); have RH7 := Lib.hid (RH6.out.upd hu (Nat.ne_of_lt RH5.out.lt)); have VA7 := Lib.hid (show LdV w7 (.agg (ldC m.q m.u m.h m.n a5 n5 c5).toArray) m from ⟨_, _, _, rfl, L6.out.upd5 RA6.out (show 5 ≤ 5 from Nat.le_refl 5) hu⟩); have B7 := Lib.hid (B6.out.trans (hu.below B5.out.size)); have VL7 := Lib.hid (HV.out w7 B7.out); clear hr hu)
      | ((with_reducible refine load_row (o := ⟨some 28, _, _, _, _, _⟩) rfl _ _ rfl w5.heap.size ?_ _ (ldC m.q m.u m.h m.n a5 n5 c5) _ RA7.out Try.underlying50 rfl ?_ ?_); (focus go_simp); (focus (exact LZS.out)))
      | ((with_reducible refine load_row (o := ⟨some 29, _, _, _, _, _⟩) rfl _ _ rfl w.heap.size ?_ _ (ldC l.q l.u l.h l.n a n c) _ R7.out Try.underlying50 rfl ?_ ?_); (focus go_simp); (focus (exact LZS.out)))
      | (go_at_call 50; (with_reducible refine (SM.out _ _ m l w7 VA7.out VL7.out HEQ.out).mono ?_); rintro e w8 ⟨rfl, hb⟩; have B8 := Lib.hid (B7.out.trans (hb.mono B7.out.size)); clear hb)
      | (go_at_call 43; (with_reducible refine (HA.out _).mono ?_); rintro e w9 ⟨rfl, hb⟩; have B9 := Lib.hid (B8.out.trans (hb.mono B8.out.size)); clear hb))
    go_ret
    exact ⟨by first | rfl | exact one (vbool (by simp)), B9.out⟩
end Go.Proofs.Ytiopcojkdglapaa.W
