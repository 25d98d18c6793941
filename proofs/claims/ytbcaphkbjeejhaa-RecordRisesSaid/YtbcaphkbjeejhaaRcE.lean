/- LAYER 11 (record): Encode of both. -/
import Derived.Test.YtbcaphkbjeejhaaRcQ
import Derived.Test.YtbcaphkbjeejhaaRcU
set_option linter.unusedSimpArgs false
set_option linter.unusedVariables false
namespace Go.Proofs.Ytbcaphkbjeejhaa.W
open Go Go.ChangeShapes Go.WideShapes Go.ChangeAt Go.RowKit
open Go.Proofs.Ytbcaphkbjeejhaa.P (enc dec)

/-- a record's bytes -/
def encR (r : Rc) (l s : List UInt8) : List UInt8 :=
  encZ r.k ++ (if r.k = 1 then [r.i, r.t, r.f].flatMap encZ ++ (enc s.length ++ s) else if r.k = 2 then [r.t, r.v].flatMap encZ else if r.k = 3 then codeE r.e l else encZ r.i)
theorem pnum_rd (a : Option Addr) (len cap : Nat) (n : Int) (l : List UInt8) (w : World) (hr : Rd w a len cap l) (h2 : n ≤ 9223372036854775807) (hmax : len ≤ 190000) :
    Calls Try.prog 81 #[.slice a len cap, .int .i64 n] w fun x w' => ∃ a' m c', x = .returned (.slice a' m c') ∧ Rd w' a' m c' (l ++ enc n.toNat) ∧ Below w.heap.size w w' ∧ m ≤ len + 9 := by
  have h9 := P.enc_len n.toNat (by omega)
  refine (pnum a len cap n l w hr h2 (by omega)).mono ?_
  rintro x w' ⟨rfl, hk, hb, -⟩
  exact ⟨_, _, _, rfl, hk.rd' _ (by rw [List.length_append, hr.hlen]) (by omega), hb, by omega⟩
theorem rnum_rd (a : Option Addr) (len cap : Nat) (n : Int) (l : List UInt8) (w : World) (hr : Rd w a len cap l) (h2 : n ≤ 9223372036854775807) (hmax : len ≤ 190000) :
    Calls Try.prog 82 #[.slice a len cap, .int .i64 n] w fun x w' => ∃ a' m c', x = .returned (.slice a' m c') ∧ Rd w' a' m c' (l ++ enc n.toNat) ∧ Below w.heap.size w w' ∧ m ≤ len + 9 := by
  have h9 := P.enc_len n.toNat (by omega)
  refine (rnum a len cap n l w hr h2 (by omega)).mono ?_
  rintro x w' ⟨v, rfl, hf, hb⟩
  obtain ⟨a', c', rfl, hr'⟩ := hf.form' _ rfl
  exact ⟨_, _, _, rfl, hr', hb, by rw [List.length_append, hr.hlen]; omega⟩
theorem chk_facts {r : Rc} {l s : List UInt8} (h : chkR r l s = 0) : fitsR r = true := by
  unfold chkR at h
  cases hf : fitsR r
  · rw [hf] at h; simp at h
  · rfl
theorem fits1 {t v i f : Int} {e : En} {a : Option Addr} {n c : Nat} (h : fitsR ⟨1, t, v, e, i, f, a, n, c⟩ = true) : (0 ≤ i ∧ i ≤ 2147483648) ∧ (0 ≤ t ∧ t ≤ 2147483648) ∧ (0 ≤ f ∧ f ≤ 127) ∧ n ≤ 131072 := by
  unfold fitsR inV at h; simpa using h
theorem fits2 {t v i f : Int} {e : En} {a : Option Addr} {n c : Nat} (h : fitsR ⟨2, t, v, e, i, f, a, n, c⟩ = true) : (0 ≤ t ∧ t ≤ 2147483648) ∧ (0 ≤ v ∧ v ≤ 7) := by
  unfold fitsR inV at h; simpa using h
theorem fits3 {t v i f : Int} {e : En} {a : Option Addr} {n c : Nat} (h : fitsR ⟨3, t, v, e, i, f, a, n, c⟩ = true) : enOk e = true := by
  unfold fitsR at h; simpa using h
theorem fits4 {t v i f : Int} {e : En} {a : Option Addr} {n c : Nat} (h : fitsR ⟨4, t, v, e, i, f, a, n, c⟩ = true) : 1 ≤ i ∧ i ≤ 2147483648 := by
  unfold fitsR inV at h; simpa using h
theorem fitsk {k t v i f : Int} {e : En} {a : Option Addr} {n c : Nat} (k1 : (k == 1) = false) (k2 : (k == 2) = false) (k3 : (k == 3) = false) (k4 : (k == 4) = false) : fitsR ⟨k, t, v, e, i, f, a, n, c⟩ = false := by
  simp only [beq_eq_false_iff_ne] at k1 k2 k3 k4
  unfold fitsR; dsimp only; rw [if_neg k1, if_neg k2, if_neg k3, if_neg k4]
set_option maxRecDepth 100000 in
set_option maxHeartbeats 8000000 in
theorem renc_bad (k : Int) (t v ix tm kd i f : Int) (a sa : Option Addr) (n c sn sc : Nat) (l s : List UInt8) (w : World) (hl : Rd w a n c l) (hs : Rd w sa sn sc s) (hC : chkR ⟨k, t, v, ⟨ix, tm, kd, a, n, c⟩, i, f, sa, sn, sc⟩ l s = 1) :
    Calls Try.prog 49 #[.agg (Rc.cells ⟨k, t, v, ⟨ix, tm, kd, a, n, c⟩, i, f, sa, sn, sc⟩).toArray] w fun x w' => x = .returned (.tuple #[.slice none 0 0, .int .i64 1]) ∧ Below w.heap.size w w' := by
  have HL := Lib.hid hl
  have HS := Lib.hid hs
  have HC := Lib.hid hC
  clear hl hs hC
  unfold Rc.cells
  dsimp only
  go_enter Try.func49, Try.ntmps49
  go_wp2_with (first
    | (with_reducible refine box_row (o := ⟨some 1, _, _, _, _, _⟩) rfl _ _ rfl [.int .i64 k, .int .i64 t, .int .i64 v, .int .i64 ix, .int .i64 tm, .int .i64 kd, .slice a n c, .int .i64 i, .int .i64 f, .slice sa sn sc] rfl ?_; intro w1 hr1 hb1 hz1; have HR1 := Lib.hid hr1; obtain ⟨c0, c1, c2, c3, c4, c5, c6, c7, c8, c9⟩ := hr1.q10; have B1 := Lib.hid hb1; clear hr1 hb1 hz1)
    | (go_at_call 51; refine (rcheck ⟨k, t, v, ⟨ix, tm, kd, a, n, c⟩, i, f, sa, sn, sc⟩ l s w1 (HL.out.mono B1.out) (HS.out.mono B1.out)).mono ?_; rw [HC.out]; rintro x w2 ⟨rfl, hb2⟩; have B2 := Lib.hid (B1.out.trans (hb2.mono B1.out.size)); have HR2 := Lib.hid (HR1.out.below hb2 HR1.out.lt); clear c0 c1 c2 c3 c4 c5 c6 c7 c8 c9; obtain ⟨c0, c1, c2, c3, c4, c5, c6, c7, c8, c9⟩ := HR2.out.q10; clear hb2))
  go_ret2
  exact ⟨rfl, B2.out⟩
set_option maxRecDepth 100000 in
set_option maxHeartbeats 8000000 in
theorem renc1 (t v ix tm kd i f : Int) (a sa : Option Addr) (n c sn sc : Nat) (l s : List UInt8) (w : World) (hl : Rd w a n c l) (hs : Rd w sa sn sc s) (hC : chkR ⟨1, t, v, ⟨ix, tm, kd, a, n, c⟩, i, f, sa, sn, sc⟩ l s = 0) :
    Calls Try.prog 49 #[.agg (Rc.cells ⟨1, t, v, ⟨ix, tm, kd, a, n, c⟩, i, f, sa, sn, sc⟩).toArray] w fun x w' => ∃ a' m c', x = .returned (.tuple #[.slice a' m c', .int .i64 0]) ∧ Rd w' a' m c' (encR ⟨1, t, v, ⟨ix, tm, kd, a, n, c⟩, i, f, sa, sn, sc⟩ l s) ∧ Below w.heap.size w w' := by
  have HL := Lib.hid hl
  have HS := Lib.hid hs
  have HC := Lib.hid hC
  have hfit := chk_facts (hC)
  obtain ⟨⟨y1, y2⟩, ⟨y3, y4⟩, ⟨y5, y6⟩, y7⟩ := fits1 hfit
  have HSN := Lib.hid hs.hlen
  have HLN := Lib.hid hl.hlen
  obtain ⟨R, hR⟩ : ∃ R, encR ⟨1, t, v, ⟨ix, tm, kd, a, n, c⟩, i, f, sa, sn, sc⟩ l s = R := ⟨_, rfl⟩
  rw [hR]
  have hR2 : R = encZ 1 ++ ([i, t, f].flatMap encZ ++ (enc s.length ++ s)) := by rw [← hR]; rfl
  have HR9 := Lib.hid hR2
  have HS2 : Hid ((str s).size = s.length) := Lib.hid (by rfl)
  have HSD : Hid ((str s).data.toList = s) := Lib.hid (str_data s)
  have HF : Hid (∀ z ∈ [i, t, f], z ≤ 9223372036854775807) := Lib.hid (by intro z hz; simp at hz; rcases hz with rfl | rfl | rfl <;> omega)
  clear hl hs hC hfit hR hR2
  unfold Rc.cells
  dsimp only
  go_enter Try.func49, Try.ntmps49
  go_wp2_with (first
    | (with_reducible refine box_row (o := ⟨some 1, _, _, _, _, _⟩) rfl _ _ rfl [.int .i64 1, .int .i64 t, .int .i64 v, .int .i64 ix, .int .i64 tm, .int .i64 kd, .slice a n c, .int .i64 i, .int .i64 f, .slice sa sn sc] rfl ?_; intro w1 hr1 hb1 hz1; have HR1 := Lib.hid hr1; obtain ⟨c0, c1, c2, c3, c4, c5, c6, c7, c8, c9⟩ := hr1.q10; have B1 := Lib.hid hb1; clear hr1 hb1 hz1)
    | (go_at_call 51; refine (rcheck ⟨1, t, v, ⟨ix, tm, kd, a, n, c⟩, i, f, sa, sn, sc⟩ l s w1 (HL.out.mono B1.out) (HS.out.mono B1.out)).mono ?_; rw [HC.out]; rintro x w2 ⟨rfl, hb2⟩; have B2 := Lib.hid (B1.out.trans (hb2.mono B1.out.size)); have HR2 := Lib.hid (HR1.out.below hb2 HR1.out.lt); clear c0 c1 c2 c3 c4 c5 c6 c7 c8 c9; obtain ⟨c0, c1, c2, c3, c4, c5, c6, c7, c8, c9⟩ := HR2.out.q10; clear hb2)
    | (go_at_call 81; ((with_reducible refine (pnum_rd none 0 0 1 [] w2 (Rd_nil _) ?_ ?_).mono ?_); (focus (first | omega | decide)); (focus (first | omega | decide))); rw [List.nil_append]; rintro x w3 ⟨a3, m3, c3', rfl, hr3, hb3, hm3⟩; have R3 := Lib.hid hr3; have B3 := Lib.hid (B2.out.trans (hb3.mono B2.out.size)); have HR3 := Lib.hid (HR2.out.below hb3 HR2.out.lt); clear c0 c1 c2 c3 c4 c5 c6 c7 c8 c9; obtain ⟨c0, c1, c2, c3, c4, c5, c6, c7, c8, c9⟩ := HR3.out.q10; clear hr3 hb3))
  have HR0 : Hid (Row w3 w.heap.size 29 [.int .i64 1, .int .i64 t, .int .i64 v, .int .i64 ix, .int .i64 tm, .int .i64 kd, .slice a n c, .int .i64 i, .int .i64 f, .slice sa sn sc]) := HR3
  refine region_h (fun v => Below w3.heap.size w3 v) (by kernel_rfl) (by kernel_rfl) (Below.refl _ _).drew ?_
  obtain ⟨wd, hwd⟩ : ∃ wd, w3.drew = wd := ⟨_, rfl⟩
  have D0 : Hid (Below w3.heap.size w3 wd) := Lib.hid (by rw [← hwd]; exact (Below.refl _ _).drew)
  rw [hwd]
  clear hwd c0 c1 c2 c3 c4 c5 c6 c7 c8 c9
  (refine h_read 0 rfl (by kernel_rfl) (by kernel_rfl) (h_free rfl) ?_ ?_ ?_; rotate_left; (focus (intro v hv; go_simp; rfl)); go_simp)
  (refine h_read 1 rfl (by kernel_rfl) (by kernel_rfl) (h_free rfl) ?_ ?_ ?_; rotate_left; (focus (intro v hv; go_simp; rfl)); go_simp)
  (refine h_read 2 rfl (by kernel_rfl) (by kernel_rfl) (h_free rfl) ?_ ?_ ?_; rotate_left; (focus (intro v hv; obtain ⟨c0, c1, c2, c3, c4, c5, c6, c7, c8, c9⟩ := (HR3.out.below hv HR3.out.lt).q10; have cv := conv_rd (HS.out.mono (B3.out.trans (hv.mono B3.out.size))); go_simp; rfl)); go_simp)
  (refine h_read 3 rfl (by kernel_rfl) (by kernel_rfl) (h_free rfl) ?_ ?_ ?_; rotate_left; (focus (intro v hv; go_simp; rfl)); go_simp)
  (refine h_read 4 rfl (by kernel_rfl) (by kernel_rfl) (h_free rfl) ?_ ?_ ?_; rotate_left; (focus (intro v hv; obtain ⟨c0, c1, c2, c3, c4, c5, c6, c7, c8, c9⟩ := (HR3.out.below hv HR3.out.lt).q10; have cv := conv_rd (HS.out.mono (B3.out.trans (hv.mono B3.out.size))); go_simp; rfl)); go_simp)
  (refine h_read 5 rfl (by kernel_rfl) (by kernel_rfl) (h_free rfl) ?_ ?_ ?_; rotate_left; (focus (intro v hv; go_simp; rfl)); go_simp)
  (refine h_read 6 rfl (by kernel_rfl) (by kernel_rfl) (h_free rfl) ?_ ?_ ?_; rotate_left; (focus (intro v hv; obtain ⟨c0, c1, c2, c3, c4, c5, c6, c7, c8, c9⟩ := (HR3.out.below hv HR3.out.lt).q10; have cv := conv_rd (HS.out.mono (B3.out.trans (hv.mono B3.out.size))); go_simp; rfl)); go_simp)
  (refine h_read 9 rfl (by kernel_rfl) (by kernel_rfl) (h_free rfl) ?_ ?_ ?_; rotate_left; (focus (intro v hv; go_simp; rfl)); go_simp)
  (refine h_read 10 rfl (by kernel_rfl) (by kernel_rfl) (h_free rfl) ?_ ?_ ?_; rotate_left; (focus (intro v hv; obtain ⟨c0, c1, c2, c3, c4, c5, c6, c7, c8, c9⟩ := (HR3.out.below hv HR3.out.lt).q10; have cv := conv_rd (HS.out.mono (B3.out.trans (hv.mono B3.out.size))); go_simp; rfl)); go_simp)
  (refine h_read 11 rfl (by kernel_rfl) (by kernel_rfl) (h_free rfl) ?_ ?_ ?_; rotate_left; (focus (intro v hv; obtain ⟨c0, c1, c2, c3, c4, c5, c6, c7, c8, c9⟩ := (HR3.out.below hv HR3.out.lt).q10; have cv := conv_rd (HS.out.mono (B3.out.trans (hv.mono B3.out.size))); go_simp; rfl)); go_simp)
  (refine h_list 7 rfl (by kernel_rfl) ?_; intro K hK)
  go_wp2_with fail
  have D1 : Hid (Below w3.heap.size w3 (wd.alloc (.cells ([i, t, f].map (Value.int .i64)).toArray 3))) := Lib.hid (D0.out.alloc D0.out.size _)
  refine hK _ _ D1.out ?_
  go_simp
  (refine h_call 8 rfl (by kernel_rfl) (h_free rfl) 89 ?_ ?_ ?_; rotate_left; (focus (go_simp; rfl)))
  have key := rnumbers a3 m3 c3' (enc (1 : Int).toNat) wd.heap.size [i, t, f] 3 (wd.alloc (.cells ([i, t, f].map (Value.int .i64)).toArray 3)) (R3.out.mono D1.out) (by omega) rfl (by decide) (by decide) HF.out (by simp) (fun i' hi => ints_in wd [i, t, f] 3 rfl i' hi)
  refine key.mono ?_
  rintro x w4 ⟨v4, rfl, hf4, hb4⟩
  obtain ⟨n4, hn4⟩ : ∃ n, (enc (1 : Int).toNat ++ [i, t, f].flatMap encZ).length = n := ⟨_, rfl⟩
  obtain ⟨a4, c4, hv4, hr4⟩ := hf4.form' n4 hn4
  subst hv4
  have R4 := Lib.hid hr4
  have D4 := Lib.hid (D1.out.trans (hb4.mono D1.out.size))
  have hel := encz_len [i, t, f] HF.out
  have N4 := Lib.hid (show n4 ≤ 100 by rw [← hn4]; rw [List.length_append]; have := P.enc_len (1 : Int).toNat (by decide); simp only [List.length_cons, List.length_nil] at hel; omega)
  clear hf4 hr4 hb4 key hel
  have NN4 := Lib.hid hn4
  clear hn4
  refine ⟨_, rfl, D4.out, ?_⟩
  go_simp
  (refine h_call 12 rfl (by kernel_rfl) (h_free rfl) 88 ?_ ?_ ?_; rotate_left; (focus (go_simp; rfl)))
  have key := ptext a4 n4 c4 (str s) (enc (1 : Int).toNat ++ [i, t, f].flatMap encZ) w4 R4.out (by rw [HS2.out, HSN.out]; omega) (by have := N4.out; omega)
  rw [HS2.out, HSD.out] at key
  refine key.mono ?_
  rintro x w5 ⟨rfl, hk5, hb5, hz5⟩
  have R5 := Lib.hid (hk5.rd' (n4 + ((enc s.length).length + s.length)) (by rw [List.length_append, NN4.out, List.length_append]) (by have := N4.out; have := P.enc_len s.length (by have := HSN.out; omega); have := HSN.out; omega))
  have D5 := Lib.hid (D4.out.trans (hb5.mono D4.out.size))
  clear hk5 hb5 hz5 key
  obtain ⟨n5, hn5⟩ : ∃ n, n4 + ((enc s.length).length + s.length) = n := ⟨_, rfl⟩
  rw [hn5] at R5 ⊢
  clear hn5
  refine ⟨_, rfl, D5.out, ?_⟩
  go_simp
  (refine h_read 13 rfl (by kernel_rfl) (by kernel_rfl) (h_free rfl) ?_ ?_ ?_; rotate_left; (focus (intro v hv; go_simp; rfl)); go_simp)
  refine h_done (by kernel_rfl) ?_
  go_wp2_with fail
  go_ret2
  refine ⟨_, _, _, rfl, ?_, B3.out.trans (D5.out.mono B3.out.size)⟩
  have hx : (enc (1 : Int).toNat ++ [i, t, f].flatMap encZ) ++ (enc s.length ++ s) = R := by rw [HR9.out, List.append_assoc]; rfl
  rw [← hx]
  exact R5.out
set_option maxRecDepth 100000 in
set_option maxHeartbeats 8000000 in
theorem renc2 (t v ix tm kd i f : Int) (a sa : Option Addr) (n c sn sc : Nat) (l s : List UInt8) (w : World) (hl : Rd w a n c l) (hs : Rd w sa sn sc s) (hC : chkR ⟨2, t, v, ⟨ix, tm, kd, a, n, c⟩, i, f, sa, sn, sc⟩ l s = 0) :
    Calls Try.prog 49 #[.agg (Rc.cells ⟨2, t, v, ⟨ix, tm, kd, a, n, c⟩, i, f, sa, sn, sc⟩).toArray] w fun x w' => ∃ a' m c', x = .returned (.tuple #[.slice a' m c', .int .i64 0]) ∧ Rd w' a' m c' (encR ⟨2, t, v, ⟨ix, tm, kd, a, n, c⟩, i, f, sa, sn, sc⟩ l s) ∧ Below w.heap.size w w' := by
  have HL := Lib.hid hl
  have HS := Lib.hid hs
  have HC := Lib.hid hC
  have hfit := chk_facts (hC)
  obtain ⟨⟨y3, y4⟩, ⟨y5, y6⟩⟩ := fits2 hfit
  have HSN := Lib.hid hs.hlen
  have HLN := Lib.hid hl.hlen
  obtain ⟨R, hR⟩ : ∃ R, encR ⟨2, t, v, ⟨ix, tm, kd, a, n, c⟩, i, f, sa, sn, sc⟩ l s = R := ⟨_, rfl⟩
  rw [hR]
  have hR2 : R = encZ 2 ++ [t, v].flatMap encZ := by rw [← hR]; rfl
  have HR9 := Lib.hid hR2
  have HF : Hid (∀ z ∈ [t, v], z ≤ 9223372036854775807) := Lib.hid (by intro z hz; simp at hz; rcases hz with rfl | rfl <;> omega)
  clear hl hs hC hfit hR hR2
  unfold Rc.cells
  dsimp only
  go_enter Try.func49, Try.ntmps49
  go_wp2_with (first
    | (with_reducible refine box_row (o := ⟨some 1, _, _, _, _, _⟩) rfl _ _ rfl [.int .i64 2, .int .i64 t, .int .i64 v, .int .i64 ix, .int .i64 tm, .int .i64 kd, .slice a n c, .int .i64 i, .int .i64 f, .slice sa sn sc] rfl ?_; intro w1 hr1 hb1 hz1; have HR1 := Lib.hid hr1; obtain ⟨c0, c1, c2, c3, c4, c5, c6, c7, c8, c9⟩ := hr1.q10; have B1 := Lib.hid hb1; clear hr1 hb1 hz1)
    | (go_at_call 51; refine (rcheck ⟨2, t, v, ⟨ix, tm, kd, a, n, c⟩, i, f, sa, sn, sc⟩ l s w1 (HL.out.mono B1.out) (HS.out.mono B1.out)).mono ?_; rw [HC.out]; rintro x w2 ⟨rfl, hb2⟩; have B2 := Lib.hid (B1.out.trans (hb2.mono B1.out.size)); have HR2 := Lib.hid (HR1.out.below hb2 HR1.out.lt); clear c0 c1 c2 c3 c4 c5 c6 c7 c8 c9; obtain ⟨c0, c1, c2, c3, c4, c5, c6, c7, c8, c9⟩ := HR2.out.q10; clear hb2)
    | (go_at_call 81; ((with_reducible refine (pnum_rd none 0 0 2 [] w2 (Rd_nil _) ?_ ?_).mono ?_); (focus (first | omega | decide)); (focus (first | omega | decide))); rw [List.nil_append]; rintro x w3 ⟨a3, m3, c3', rfl, hr3, hb3, hm3⟩; have R3 := Lib.hid hr3; have B3 := Lib.hid (B2.out.trans (hb3.mono B2.out.size)); have HR3 := Lib.hid (HR2.out.below hb3 HR2.out.lt); clear c0 c1 c2 c3 c4 c5 c6 c7 c8 c9; obtain ⟨c0, c1, c2, c3, c4, c5, c6, c7, c8, c9⟩ := HR3.out.q10; clear hr3 hb3))
  have key := rnumbers a3 m3 c3' (enc (2 : Int).toNat) w3.heap.size [t, v] 2 (w3.alloc (.cells ([t, v].map (Value.int .i64)).toArray 3)) (R3.out.mono ((Below.refl _ _).alloc (Nat.le_refl _) _)) (by omega) rfl (by decide) (by decide) HF.out (by simp) (fun i' hi => ints_in w3 [t, v] 2 rfl i' hi)
  refine key.mono ?_
  rintro x w4 ⟨v4, rfl, hf4, hb4⟩
  obtain ⟨n4, hn4⟩ : ∃ n, (enc (2 : Int).toNat ++ [t, v].flatMap encZ).length = n := ⟨_, rfl⟩
  obtain ⟨a4, c4', hv4, hr4⟩ := hf4.form' n4 hn4
  subst hv4
  have R4 := Lib.hid hr4
  have B4 := Lib.hid ((B3.out.alloc B3.out.size (.cells ([t, v].map (Value.int .i64)).toArray 3)).trans (hb4.mono (B3.out.alloc B3.out.size _).size))
  clear hf4 hr4 hb4 key hn4
  go_wp2_with fail
  go_ret2
  refine ⟨_, _, _, rfl, ?_, B4.out⟩
  have hx : enc (2 : Int).toNat ++ [t, v].flatMap encZ = R := by rw [HR9.out]; rfl
  rw [← hx]
  exact R4.out
set_option maxRecDepth 100000 in
set_option maxHeartbeats 8000000 in
theorem renc3 (t v ix tm kd i f : Int) (a sa : Option Addr) (n c sn sc : Nat) (l s : List UInt8) (w : World) (hl : Rd w a n c l) (hs : Rd w sa sn sc s) (hC : chkR ⟨3, t, v, ⟨ix, tm, kd, a, n, c⟩, i, f, sa, sn, sc⟩ l s = 0) :
    Calls Try.prog 49 #[.agg (Rc.cells ⟨3, t, v, ⟨ix, tm, kd, a, n, c⟩, i, f, sa, sn, sc⟩).toArray] w fun x w' => ∃ a' m c', x = .returned (.tuple #[.slice a' m c', .int .i64 0]) ∧ Rd w' a' m c' (encR ⟨3, t, v, ⟨ix, tm, kd, a, n, c⟩, i, f, sa, sn, sc⟩ l s) ∧ Below w.heap.size w w' := by
  have HL := Lib.hid hl
  have HS := Lib.hid hs
  have HC := Lib.hid hC
  have hfit := chk_facts (hC)
  have HOK := Lib.hid (fits3 hfit)
  have HSN := Lib.hid hs.hlen
  have HLN := Lib.hid hl.hlen
  obtain ⟨R, hR⟩ : ∃ R, encR ⟨3, t, v, ⟨ix, tm, kd, a, n, c⟩, i, f, sa, sn, sc⟩ l s = R := ⟨_, rfl⟩
  rw [hR]
  have hR2 : R = encZ 3 ++ codeE ⟨ix, tm, kd, a, n, c⟩ l := by rw [← hR]; rfl
  have HR9 := Lib.hid hR2
  clear hl hs hC hfit hR hR2
  unfold Rc.cells
  dsimp only
  go_enter Try.func49, Try.ntmps49
  go_wp2_with (first
    | (with_reducible refine box_row (o := ⟨some 1, _, _, _, _, _⟩) rfl _ _ rfl [.int .i64 3, .int .i64 t, .int .i64 v, .int .i64 ix, .int .i64 tm, .int .i64 kd, .slice a n c, .int .i64 i, .int .i64 f, .slice sa sn sc] rfl ?_; intro w1 hr1 hb1 hz1; have HR1 := Lib.hid hr1; obtain ⟨c0, c1, c2, c3, c4, c5, c6, c7, c8, c9⟩ := hr1.q10; have B1 := Lib.hid hb1; clear hr1 hb1 hz1)
    | (go_at_call 51; refine (rcheck ⟨3, t, v, ⟨ix, tm, kd, a, n, c⟩, i, f, sa, sn, sc⟩ l s w1 (HL.out.mono B1.out) (HS.out.mono B1.out)).mono ?_; rw [HC.out]; rintro x w2 ⟨rfl, hb2⟩; have B2 := Lib.hid (B1.out.trans (hb2.mono B1.out.size)); have HR2 := Lib.hid (HR1.out.below hb2 HR1.out.lt); clear c0 c1 c2 c3 c4 c5 c6 c7 c8 c9; obtain ⟨c0, c1, c2, c3, c4, c5, c6, c7, c8, c9⟩ := HR2.out.q10; clear hb2)
    | (go_at_call 81; ((with_reducible refine (pnum_rd none 0 0 3 [] w2 (Rd_nil _) ?_ ?_).mono ?_); (focus (first | omega | decide)); (focus (first | omega | decide))); rw [List.nil_append]; rintro x w3 ⟨a3, m3, c3', rfl, hr3, hb3, hm3⟩; have R3 := Lib.hid hr3; have B3 := Lib.hid (B2.out.trans (hb3.mono B2.out.size)); have HR3 := Lib.hid (HR2.out.below hb3 HR2.out.lt); clear c0 c1 c2 c3 c4 c5 c6 c7 c8 c9; obtain ⟨c0, c1, c2, c3, c4, c5, c6, c7, c8, c9⟩ := HR3.out.q10; clear hr3 hb3)
    | (go_at_call 90; refine (rputE a3 m3 c3' (enc (3 : Int).toNat) ⟨ix, tm, kd, a, n, c⟩ l w3 R3.out (by omega) (HL.out.mono B3.out)).mono ?_; rintro x w4 ⟨v4, rfl, hf4, hb4⟩; obtain ⟨n4, hn4⟩ : ∃ nn, (putE (enc (3 : Int).toNat) ⟨ix, tm, kd, a, n, c⟩ l).length = nn := ⟨_, rfl⟩; obtain ⟨a4, c4', hv4, hr4⟩ := hf4.form' n4 hn4; subst hv4; clear hn4; have R4 := Lib.hid hr4; have B4 := Lib.hid (B3.out.trans (hb4.mono B3.out.size)); clear hf4 hr4 hb4))
  go_ret2
  refine ⟨_, _, _, rfl, ?_, B4.out⟩
  have hx : putE (enc (3 : Int).toNat) ⟨ix, tm, kd, a, n, c⟩ l = R := by rw [HR9.out]; unfold putE; rw [if_pos HOK.out]; rfl
  rw [← hx]
  exact R4.out
set_option maxRecDepth 100000 in
set_option maxHeartbeats 8000000 in
theorem renc4 (t v ix tm kd i f : Int) (a sa : Option Addr) (n c sn sc : Nat) (l s : List UInt8) (w : World) (hl : Rd w a n c l) (hs : Rd w sa sn sc s) (hC : chkR ⟨4, t, v, ⟨ix, tm, kd, a, n, c⟩, i, f, sa, sn, sc⟩ l s = 0) :
    Calls Try.prog 49 #[.agg (Rc.cells ⟨4, t, v, ⟨ix, tm, kd, a, n, c⟩, i, f, sa, sn, sc⟩).toArray] w fun x w' => ∃ a' m c', x = .returned (.tuple #[.slice a' m c', .int .i64 0]) ∧ Rd w' a' m c' (encR ⟨4, t, v, ⟨ix, tm, kd, a, n, c⟩, i, f, sa, sn, sc⟩ l s) ∧ Below w.heap.size w w' := by
  have HL := Lib.hid hl
  have HS := Lib.hid hs
  have HC := Lib.hid hC
  have hfit := chk_facts (hC)
  obtain ⟨y1, y2⟩ := fits4 hfit
  have HSN := Lib.hid hs.hlen
  have HLN := Lib.hid hl.hlen
  obtain ⟨R, hR⟩ : ∃ R, encR ⟨4, t, v, ⟨ix, tm, kd, a, n, c⟩, i, f, sa, sn, sc⟩ l s = R := ⟨_, rfl⟩
  rw [hR]
  have hR2 : R = encZ 4 ++ encZ i := by rw [← hR]; rfl
  have HR9 := Lib.hid hR2
  clear hl hs hC hfit hR hR2
  unfold Rc.cells
  dsimp only
  go_enter Try.func49, Try.ntmps49
  go_wp2_with (first
    | (with_reducible refine box_row (o := ⟨some 1, _, _, _, _, _⟩) rfl _ _ rfl [.int .i64 4, .int .i64 t, .int .i64 v, .int .i64 ix, .int .i64 tm, .int .i64 kd, .slice a n c, .int .i64 i, .int .i64 f, .slice sa sn sc] rfl ?_; intro w1 hr1 hb1 hz1; have HR1 := Lib.hid hr1; obtain ⟨c0, c1, c2, c3, c4, c5, c6, c7, c8, c9⟩ := hr1.q10; have B1 := Lib.hid hb1; clear hr1 hb1 hz1)
    | (go_at_call 51; refine (rcheck ⟨4, t, v, ⟨ix, tm, kd, a, n, c⟩, i, f, sa, sn, sc⟩ l s w1 (HL.out.mono B1.out) (HS.out.mono B1.out)).mono ?_; rw [HC.out]; rintro x w2 ⟨rfl, hb2⟩; have B2 := Lib.hid (B1.out.trans (hb2.mono B1.out.size)); have HR2 := Lib.hid (HR1.out.below hb2 HR1.out.lt); clear c0 c1 c2 c3 c4 c5 c6 c7 c8 c9; obtain ⟨c0, c1, c2, c3, c4, c5, c6, c7, c8, c9⟩ := HR2.out.q10; clear hb2)
    | (go_at_call 81; ((with_reducible refine (pnum_rd none 0 0 4 [] w2 (Rd_nil _) ?_ ?_).mono ?_); (focus (first | omega | decide)); (focus (first | omega | decide))); rw [List.nil_append]; rintro x w3 ⟨a3, m3, c3', rfl, hr3, hb3, hm3⟩; have R3 := Lib.hid hr3; have B3 := Lib.hid (B2.out.trans (hb3.mono B2.out.size)); have HR3 := Lib.hid (HR2.out.below hb3 HR2.out.lt); clear c0 c1 c2 c3 c4 c5 c6 c7 c8 c9; obtain ⟨c0, c1, c2, c3, c4, c5, c6, c7, c8, c9⟩ := HR3.out.q10; clear hr3 hb3)
    | (go_at_call 81; ((with_reducible refine (pnum_rd a3 m3 c3' i (enc (4 : Int).toNat) w3 R3.out ?_ ?_).mono ?_); (focus omega); (focus omega)); rintro x w4 ⟨a4, m4, c4', rfl, hr4, hb4, hm4⟩; have R4 := Lib.hid hr4; have B4 := Lib.hid (B3.out.trans (hb4.mono B3.out.size)); clear hr4 hb4))
  go_ret2
  refine ⟨_, _, _, rfl, ?_, B4.out⟩
  have hx : enc (4 : Int).toNat ++ enc i.toNat = R := by rw [HR9.out]; rfl
  rw [← hx]
  exact R4.out
/-- the bytes; none of a record that may not be -/
def encV (r : Rc) (l s : List UInt8) : List UInt8 := if chkR r l s = 0 then encR r l s else []
theorem chk01R (r : Rc) (l s : List UInt8) : chkR r l s = 0 ∨ chkR r l s = 1 := by unfold chkR; split <;> simp
theorem renc (r : Rc) (l s : List UInt8) (w : World) (hl : Rd w r.e.a r.e.n r.e.c l) (hs : Rd w r.a r.n r.c s) :
    Calls Try.prog 49 #[.agg r.cells.toArray] w fun x w' => ∃ a' m c', x = .returned (.tuple #[.slice a' m c', .int .i64 (chkR r l s)]) ∧ Rd w' a' m c' (encV r l s) ∧ Below w.heap.size w w' := by
  have hE : chkR r l s = chkR r l s := rfl
  unfold encV
  rcases chk01R r l s with h0 | h1
  · rw [h0, if_pos rfl]
    have hE := hE.trans h0
    have hfit := chk_facts h0
    obtain ⟨k, t, v, ⟨ix, tm, kd, a, n, c⟩, i, f, sa, sn, sc⟩ := r
    rcases kinds k with rfl | rfl | rfl | rfl | ⟨k1, k2, k3, k4⟩
    · exact renc1 t v ix tm kd i f a sa n c sn sc l s w hl hs hE
    · exact renc2 t v ix tm kd i f a sa n c sn sc l s w hl hs hE
    · exact renc3 t v ix tm kd i f a sa n c sn sc l s w hl hs hE
    · exact renc4 t v ix tm kd i f a sa n c sn sc l s w hl hs hE
    · rw [fitsk k1 k2 k3 k4] at hfit; cases hfit
  · rw [h1, if_neg (by decide)]
    have hE := hE.trans h1
    obtain ⟨k, t, v, ⟨ix, tm, kd, a, n, c⟩, i, f, sa, sn, sc⟩ := r
    refine (renc_bad k t v ix tm kd i f a sa n c sn sc l s w hl hs hE).mono ?_
    rintro x w' ⟨rfl, hb⟩
    exact ⟨none, 0, 0, rfl, Rd_nil _, hb⟩
end Go.Proofs.Ytbcaphkbjeejhaa.W
