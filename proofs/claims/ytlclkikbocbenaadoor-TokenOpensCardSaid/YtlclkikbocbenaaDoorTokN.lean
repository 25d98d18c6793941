/- THE LAW TokenOpens: any token opens with any key, or not, as the document says. -/
import Derived.Test.YtlclkikbocbenaaDoorTokM
set_option linter.unusedSimpArgs false
set_option linter.unusedVariables false
namespace Go.Proofs.YtlclkikbocbenaaDoor.W
open Go Go.ChangeShapes Go.WideShapes Go.ChangeAt Go.RowKit
open Go.Proofs.YtlclkikbocbenaaDoor.P (enc)

set_option maxRecDepth 100000 in
set_option maxHeartbeats 4000000 in
theorem law_TokenOpens (s : ByteArray) (l1 i1 e1 : Int) (a1 : Option Addr) (n1 c1 : Nat) (L1 : List Cv) (g1 : ByteArray) (l2 i2 e2 : Int) (a2 : Option Addr) (n2 c2 : Nat) (L2 : List Cv) (g2 : ByteArray) (w : World) (hK : Ks w) (_w0 : s.size ≤ maxLen) (h1 : Cvs w a1 n1 c1 L1) (h2 : Cvs w a2 n2 c2 L2) :
    Calls Tryd.prog 4 #[.string s, .agg #[.int .i64 l1, .int .i64 i1, .int .i64 e1, .slice a1 n1 c1, .string g1], .agg #[.int .i64 l2, .int .i64 i2, .int .i64 e2, .slice a2 n2 c2, .string g2]] w fun e w' => e = .returned (.bool true) ∧ Below w.heap.size w w' := by
  have HK := Lib.hid hK
  have H1 := Lib.hid h1
  have H2 := Lib.hid h2
  clear hK h1 h2 _w0
  by_cases h500 : 500 < s.size
  · go_enter Tryd.func4, Tryd.ntmps4
    go_wp2_with (first
      | ((with_reducible refine box_row (o := ⟨some 4, _, _, _, _, _⟩) rfl _ _ rfl [.int .i64 l1, .int .i64 i1, .int .i64 e1, .slice a1 n1 c1, .string g1] rfl ?_); intro w0 hr0 hb0 hz0; have T0 := Lib.hid hr0; have B0 := Lib.hid hb0; clear hr0 hb0 hz0)
      | ((with_reducible refine box_row (o := ⟨some 5, _, _, _, _, _⟩) rfl _ _ rfl [.int .i64 l2, .int .i64 i2, .int .i64 e2, .slice a2 n2 c2, .string g2] rfl ?_); intro w1 hr1 hb1 hz1; have U1 := Lib.hid hr1; have T1 := Lib.hid (T0.out.below hb1 T0.out.lt); have B1 := Lib.hid (B0.out.trans (hb1.mono B0.out.size)); clear hr1 hb1 hz1; obtain ⟨x0, x1, x2, x3, x4⟩ := T1.out.t5; obtain ⟨y0, y1, y2, y3, y4⟩ := U1.out.t5)
      | (go_at_call 8; refine (awake8 w1 (HK.out.below B1.out HK.out.pos)).mono ?_; rintro e w9 ⟨rfl, hb9⟩; have B9 := Lib.hid (B1.out.trans (hb9.mono B1.out.size)); clear hb9))
    go_ret
    exact ⟨rfl, B9.out⟩
  have HS := Lib.hid (show s.size ≤ 50000000000000 by omega)
  rcases hf1 : few8V L1 g1 with _ | _
  · have FEW1 := Lib.hid hf1
    clear hf1
    go_enter Tryd.func4, Tryd.ntmps4
    go_wp2_with (first
      | ((with_reducible refine box_row (o := ⟨some 4, _, _, _, _, _⟩) rfl _ _ rfl [.int .i64 l1, .int .i64 i1, .int .i64 e1, .slice a1 n1 c1, .string g1] rfl ?_); intro w0 hr0 hb0 hz0; have T0 := Lib.hid hr0; have B0 := Lib.hid hb0; clear hr0 hb0 hz0)
      | ((with_reducible refine box_row (o := ⟨some 5, _, _, _, _, _⟩) rfl _ _ rfl [.int .i64 l2, .int .i64 i2, .int .i64 e2, .slice a2 n2 c2, .string g2] rfl ?_); intro w1 hr1 hb1 hz1; have U1 := Lib.hid hr1; have T1 := Lib.hid (T0.out.below hb1 T0.out.lt); have B1 := Lib.hid (B0.out.trans (hb1.mono B0.out.size)); clear hr1 hb1 hz1; obtain ⟨x0, x1, x2, x3, x4⟩ := T1.out.t5; obtain ⟨y0, y1, y2, y3, y4⟩ := U1.out.t5)
      | (go_at_call 15; ((with_reducible refine (few8_any l1 i1 e1 a1 n1 c1 L1 g1 w1 (H1.out.mono B1.out)).mono ?_); rw [FEW1.out]; rintro e w2 ⟨rfl, hb2⟩; have B2 := Lib.hid (B1.out.trans (hb2.mono B1.out.size)); have T2 := Lib.hid (T1.out.below hb2 T1.out.lt); have U2 := Lib.hid (U1.out.below hb2 U1.out.lt); clear hb2 x0 x1 x2 x3 x4 y0 y1 y2 y3 y4; obtain ⟨y0, y1, y2, y3, y4⟩ := U2.out.t5))
      | (go_at_call 8; refine (awake8 w2 (HK.out.below B2.out HK.out.pos)).mono ?_; rintro e w9 ⟨rfl, hb9⟩; have B9 := Lib.hid (B2.out.trans (hb9.mono B2.out.size)); clear hb9))
    go_ret
    exact ⟨rfl, B9.out⟩
  have FEW1 := Lib.hid hf1
  have G1 := Lib.hid (few8_facts hf1).2
  clear hf1
  rcases hf2 : few8V L2 g2 with _ | _
  · have FEW2 := Lib.hid hf2
    clear hf2
    go_enter Tryd.func4, Tryd.ntmps4
    go_wp2_with (first
      | ((with_reducible refine box_row (o := ⟨some 4, _, _, _, _, _⟩) rfl _ _ rfl [.int .i64 l1, .int .i64 i1, .int .i64 e1, .slice a1 n1 c1, .string g1] rfl ?_); intro w0 hr0 hb0 hz0; have T0 := Lib.hid hr0; have B0 := Lib.hid hb0; clear hr0 hb0 hz0)
      | ((with_reducible refine box_row (o := ⟨some 5, _, _, _, _, _⟩) rfl _ _ rfl [.int .i64 l2, .int .i64 i2, .int .i64 e2, .slice a2 n2 c2, .string g2] rfl ?_); intro w1 hr1 hb1 hz1; have U1 := Lib.hid hr1; have T1 := Lib.hid (T0.out.below hb1 T0.out.lt); have B1 := Lib.hid (B0.out.trans (hb1.mono B0.out.size)); clear hr1 hb1 hz1; obtain ⟨x0, x1, x2, x3, x4⟩ := T1.out.t5; obtain ⟨y0, y1, y2, y3, y4⟩ := U1.out.t5)
      | (go_at_call 15; first | ((with_reducible refine (few8_any l1 i1 e1 a1 n1 c1 L1 g1 w1 (H1.out.mono B1.out)).mono ?_); rw [FEW1.out]; rintro e w2 ⟨rfl, hb2⟩; have B2 := Lib.hid (B1.out.trans (hb2.mono B1.out.size)); have T2 := Lib.hid (T1.out.below hb2 T1.out.lt); have U2 := Lib.hid (U1.out.below hb2 U1.out.lt); clear hb2 x0 x1 x2 x3 x4 y0 y1 y2 y3 y4; obtain ⟨y0, y1, y2, y3, y4⟩ := U2.out.t5) | ((with_reducible refine (few8_any l2 i2 e2 a2 n2 c2 L2 g2 w2 (H2.out.mono B2.out)).mono ?_); rw [FEW2.out]; rintro e w3 ⟨rfl, hb3⟩; have B3 := Lib.hid (B2.out.trans (hb3.mono B2.out.size)); have T3 := Lib.hid (T2.out.below hb3 T2.out.lt); have U3 := Lib.hid (U2.out.below hb3 U2.out.lt); clear hb3 y0 y1 y2 y3 y4))
      | (go_at_call 8; refine (awake8 w3 (HK.out.below B3.out HK.out.pos)).mono ?_; rintro e w9 ⟨rfl, hb9⟩; have B9 := Lib.hid (B3.out.trans (hb9.mono B3.out.size)); clear hb9))
    go_ret
    exact ⟨rfl, B9.out⟩
  have FEW2 := Lib.hid hf2
  have N2 := Lib.hid (show n2 ≤ 20 by rw [← H2.out.hlen]; exact (few8_facts hf2).1)
  clear hf2
  obtain ⟨O, hO⟩ : ∃ O, openV s l1 i1 e1 L1 g1 = O := ⟨_, rfl⟩
  have HO := Lib.hid hO
  obtain ⟨C, hC⟩ : ∃ C, str (chainL g1.data.toList L2) = C := ⟨_, rfl⟩
  have HC := Lib.hid hC
  obtain ⟨S, hS⟩ : ∃ S, tokSame l1 i1 e1 L1 g1 l2 i2 e2 L2 g2 = S := ⟨_, rfl⟩
  have HSM := Lib.hid hS
  clear hO hC hS
  go_enter Tryd.func4, Tryd.ntmps4
  go_wp2_with (first
    | ((with_reducible refine box_row (o := ⟨some 4, _, _, _, _, _⟩) rfl _ _ rfl [.int .i64 l1, .int .i64 i1, .int .i64 e1, .slice a1 n1 c1, .string g1] rfl ?_); intro w0 hr0 hb0 hz0; have T0 := Lib.hid hr0; have B0 := Lib.hid hb0; clear hr0 hb0 hz0)
    | ((with_reducible refine box_row (o := ⟨some 5, _, _, _, _, _⟩) rfl _ _ rfl [.int .i64 l2, .int .i64 i2, .int .i64 e2, .slice a2 n2 c2, .string g2] rfl ?_); intro w1 hr1 hb1 hz1; have U1 := Lib.hid hr1; have T1 := Lib.hid (T0.out.below hb1 T0.out.lt); have B1 := Lib.hid (B0.out.trans (hb1.mono B0.out.size)); clear hr1 hb1 hz1; obtain ⟨x0, x1, x2, x3, x4⟩ := T1.out.t5; obtain ⟨y0, y1, y2, y3, y4⟩ := U1.out.t5)
    | (go_at_call 15; first | ((with_reducible refine (few8_any l1 i1 e1 a1 n1 c1 L1 g1 w1 (H1.out.mono B1.out)).mono ?_); rw [FEW1.out]; rintro e w2 ⟨rfl, hb2⟩; have B2 := Lib.hid (B1.out.trans (hb2.mono B1.out.size)); have T2 := Lib.hid (T1.out.below hb2 T1.out.lt); have U2 := Lib.hid (U1.out.below hb2 U1.out.lt); clear hb2 x0 x1 x2 x3 x4 y0 y1 y2 y3 y4; obtain ⟨y0, y1, y2, y3, y4⟩ := U2.out.t5) | ((with_reducible refine (few8_any l2 i2 e2 a2 n2 c2 L2 g2 w2 (H2.out.mono B2.out)).mono ?_); rw [FEW2.out]; rintro e w3 ⟨rfl, hb3⟩; have B3 := Lib.hid (B2.out.trans (hb3.mono B2.out.size)); have T3 := Lib.hid (T2.out.below hb3 T2.out.lt); have U3 := Lib.hid (U2.out.below hb3 U2.out.lt); clear hb3 y0 y1 y2 y3 y4)))
  refine region_w (C := fun v => Below w3.heap.size w3 v) (by kernel_rfl) (by kernel_rfl) (Below.refl _ _).drew ?_
  repeat (first
    | (refine w_read (wanted_free rfl) ?_ ?_ ?_; rotate_left; (focus (intro v hv; obtain ⟨x0, x1, x2, x3, x4⟩ := (T3.out.below hv T3.out.lt).t5; obtain ⟨y0, y1, y2, y3, y4⟩ := (U3.out.below hv U3.out.lt).t5; go_simp; rfl)); go_simp)
    | (refine w_skip ?_ ?_; (focus (go_simp; first | done | (intro h; cases h) | simp)); go_simp)
    | (refine w_read ?_ ?_ ?_ ?_; (focus (go_simp; done)); rotate_left; (focus (intro v hv; obtain ⟨x0, x1, x2, x3, x4⟩ := (T3.out.below hv T3.out.lt).t5; obtain ⟨y0, y1, y2, y3, y4⟩ := (U3.out.below hv U3.out.lt).t5; go_simp; rfl)); go_simp)
    | (refine w_call ?_ 16 ?_ ?_ ?_ ?_ ?_; (focus (go_simp; done)); rotate_left; (focus (intro v; go_simp; rfl)); rotate_left; (focus (intro v hv; exact q_grow (tkopen_any s l1 i1 e1 a1 n1 c1 L1 g1 v (HK.out.below (B3.out.trans (hv.mono B3.out.size)) HK.out.pos) HS.out ((H1.out.mono B3.out).mono hv)) (by rw [HO.out]) hv)); go_simp)
    | (refine w_call ?_ 17 ?_ ?_ ?_ ?_ ?_; (focus (go_simp; done)); rotate_left; (focus (intro v; go_simp; rfl)); rotate_left; (focus (intro v hv; exact q_grow (utopen_any s l1 i1 e1 a1 n1 c1 L1 g1 v HS.out ((H1.out.mono B3.out).mono hv)) (by rw [HO.out]) hv)); go_simp)
    | (refine w_call ?_ 18 ?_ ?_ ?_ ?_ ?_; (focus (go_simp; done)); rotate_left; (focus (intro v; go_simp; rfl)); rotate_left; (focus (intro v hv; exact q_grow (chain_any g1 a2 n2 c2 L2 v (HK.out.below (B3.out.trans (hv.mono B3.out.size)) HK.out.pos) (Nat.le_trans G1.out (by decide)) ((H2.out.mono B3.out).mono hv) (Nat.le_trans N2.out (by decide))) (by rw [HC.out]) hv)); go_simp)
    | (refine w_call ?_ 19 ?_ ?_ ?_ ?_ ?_; (focus (go_simp; done)); rotate_left; (focus (intro v; go_simp; rfl)); rotate_left; (focus (intro v hv; exact q_grow (rchain_any g1 a2 n2 c2 L2 v (Nat.le_trans G1.out (by decide)) ((H2.out.mono B3.out).mono hv) (Nat.le_trans N2.out (by decide))) (by rw [HC.out]) hv)); go_simp)
    | (refine w_call ?_ 20 ?_ ?_ ?_ ?_ ?_; (focus (go_simp; done)); rotate_left; (focus (intro v; go_simp; rfl)); rotate_left; (focus (intro v hv; exact q_grow (tksame_any l1 i1 e1 a1 n1 c1 L1 g1 l2 i2 e2 a2 n2 c2 L2 g2 v ((H1.out.mono B3.out).mono hv) ((H2.out.mono B3.out).mono hv)) (by rw [HSM.out]) hv)); go_simp)
    | (refine w_call ?_ 11 ?_ ?_ ?_ ?_ ?_; (focus (go_simp; done)); rotate_left; (focus (intro v; go_simp; rfl)); rotate_left; (focus (intro v hv; exact q_grow (utsame_any l1 i1 e1 a1 n1 c1 L1 g1 l2 i2 e2 a2 n2 c2 L2 g2 v ((H1.out.mono B3.out).mono hv) ((H2.out.mono B3.out).mono hv)) (by rw [HSM.out]) hv)); go_simp)
    | (refine w_call ?_ 8 ?_ ?_ ?_ ?_ ?_; (focus (go_simp; done)); rotate_left; (focus (intro v; go_simp; rfl)); rotate_left; (focus (intro v hv; exact q_grow (awake8 v (HK.out.below (B3.out.trans (hv.mono B3.out.size)) HK.out.pos)) (by rfl) hv)); go_simp))
  refine w_nil ?_
  intro w4 hb4
  go_wp2_with fail
  go_ret
  exact ⟨rfl, B3.out.trans (hb4.mono B3.out.size)⟩

end Go.Proofs.YtlclkikbocbenaaDoor.W
