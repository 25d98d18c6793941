/- LAYER 10 (frame): the law FrameAny. -/
import Derived.Test.YtfcbndjciojniaaFpV
import Derived.Test.YtfcbndjciojniaaFpL
set_option linter.unusedSimpArgs false
set_option linter.unusedVariables false
namespace Go.Proofs.Ytfcbndjciojniaa.W
open Go Go.ChangeShapes Go.WideShapes Go.ChangeAt Go.RowKit
open Go.Proofs.Ytfcbndjciojniaa.P (enc dec)

/-- what an owned list of slices of bytes is: its cells -/
theorem FrL.at {w : World} {base : Nat} {v : Value} {Ls : List (List UInt8)} (h : FrL w base v Ls) : ∃ a cap, v = .slice a Ls.length cap ∧ Ls.length ≤ cap ∧ ∀ i, i < Ls.length → ∃ g sa sc, a = some ⟨g, 0, none⟩ ∧ g < w.heap.size ∧ w.cell? ⟨g, i, none⟩ = some (.slice sa (Ls.getD i []).length sc) ∧ Rd w sa (Ls.getD i []).length sc (Ls.getD i []) := by
  obtain ⟨vs, h1, h2, h3, h4⟩ := h.ex
  have hlt := World.ownsRow.lt h2
  have hc := fun g hg => World.ownsRow.cells h2 (g := g) hg
  rcases h2.2 with ⟨rfl, h0⟩ | ⟨g, cap, cur, rfl, hg, hh, hn, r⟩
  · exact ⟨none, 0, by rw [h0], by omega, fun i hi => by omega⟩
  · refine ⟨_, cap, rfl, hn, fun i hi => ?_⟩
    have h5 := h3 i hi
    obtain ⟨⟨sa, sn, sc⟩, hs⟩ : ∃ s, vs.getD i default = s := ⟨_, rfl⟩
    rw [hs] at h5
    dsimp only at h5
    have e := h5.hlen
    subst e
    refine ⟨g, sa, sc, rfl, (hlt g rfl).2, ?_, h5⟩
    have h6 := hc g rfl i (.slice sa (Ls.getD i []).length sc) (by rw [List.getElem?_map, List.getElem?_eq_getElem (by omega)]; rw [show vs[i] = vs.getD i default by simp [show i < vs.length by omega], hs]; rfl)
    rw [Go.WideShapes.add_plain, Nat.zero_add] at h6
    exact h6

set_option maxRecDepth 100000 in
set_option maxHeartbeats 4000000 in
theorem anyeq (a1 a2 : Option Addr) (n1 c1 n2 c2 : Nat) (l1 l2 : List UInt8) (w : World) (h1 : Rd w a1 n1 c1 l1) (h2 : Rd w a2 n2 c2 l2) :
    Calls Try.prog 38 #[.slice a1 n1 c1, .slice a2 n2 c2] w fun e w' => e = .returned (.bool (decide (l1 = l2))) ∧ Below w.heap.size w w' := by
  have H1 := Lib.hid h1
  have H2 := Lib.hid h2
  obtain ⟨D, hD⟩ : ∃ D, decide (l1 = l2) = D := ⟨_, rfl⟩
  have HD := Lib.hid hD
  rw [hD]
  clear h1 h2 hD
  go_enter Try.func38, Try.ntmps38
  go_wp2_with (go_at_call 23; refine (sequal a1 a2 n1 n2 c1 c2 l1 l2 w H1.out H2.out).mono ?_; rw [HD.out]; rintro e w1 ⟨rfl, hq⟩; have B1 := Lib.hid (hq.below w.heap.size); clear hq)
  go_ret
  exact ⟨rfl, B1.out⟩

set_option maxRecDepth 100000 in
set_option maxHeartbeats 4000000 in
theorem eqfunc (b1 b2 : Nat) (v1 v2 : Value) (Ls : List (List UInt8)) (w : World) (h1 : FrL w b1 v1 Ls) (h2 : FrL w b2 v2 Ls) (hl : Ls.length ≤ 1000000) :
    Calls Try.prog 37 #[v1, v2, .func (.func 38) #[] #[]] w fun e w' => e = .returned (.bool true) ∧ Below w.heap.size w w' := by
  obtain ⟨a1, c1, rfl, hc1, q1⟩ := h1.at
  obtain ⟨a2, c2, rfl, hc2, q2⟩ := h2.at
  obtain ⟨n, hn⟩ : ∃ n, Ls.length = n := ⟨_, rfl⟩
  rw [hn] at q1 q2 hl hc1 hc2 ⊢
  have Q1 := Lib.hid q1
  have Q2 := Lib.hid q2
  clear h1 h2 q1 q2 hn
  go_enter Try.func37, Try.ntmps37
  go_wp2_with fail
  go_loopw [17] (fun i wr => ∃ k : Nat, i = .int .i64 (k : Int) ∧ k ≤ n ∧ Hid (Below w.heap.size w wr)) (fun i _ => n - (intOf i).toNat)
  case atStart => exact ⟨0, rfl, Nat.zero_le _, Lib.hid (Below.refl _ _)⟩
  case round =>
    obtain ⟨k, rfl, hk, B⟩ := hrel
    by_cases hlt : k < n
    · obtain ⟨g1, s1, t1, e1, hg1, x1, r1⟩ := Q1.out k hlt
      obtain ⟨g2, s2, t2, e2, hg2, x2, r2⟩ := Q2.out k hlt
      subst e1
      subst e2
      have y1 := (B.out.cell (p := ⟨g1, k, none⟩) hg1).trans x1
      have y2 := (B.out.cell (p := ⟨g2, k, none⟩) hg2).trans x2
      obtain ⟨L, hL⟩ : ∃ L, Ls.getD k [] = L := ⟨_, rfl⟩
      obtain ⟨m, hm⟩ : ∃ m, L.length = m := ⟨_, rfl⟩
      rw [hL, hm] at y1 y2 r1 r2
      have Z1 := Lib.hid (r1.mono B.out)
      have Z2 := Lib.hid (r2.mono B.out)
      clear x1 x2 r1 r2 hL hm
      go_wp2_with (go_at_call 38; refine (anyeq s1 s2 m t1 m t2 L L wr Z1.out Z2.out).mono ?_; rw [decide_eq_true rfl]; rintro e w5 ⟨rfl, hb5⟩; have B5 := Lib.hid (B.out.trans (hb5.mono B.out.size)); clear hb5 y1 y2)
      go_roundw
      case rel => exact ⟨k + 1, vint (by omega), by omega, B5⟩
      case measure => simp [intOf]; omega
    · obtain rfl : n = k := by omega
      go_wp2_with fail
      go_ret
      exact ⟨rfl, B.out⟩

theorem scanG_len (b : List UInt8) : ∀ f p, p ≤ b.length → (scanG b f p).1.length ≤ b.length - p ∧ p ≤ (scanG b f p).2 ∧ (scanG b f p).2 ≤ b.length
  | 0, p, hp => by simp [scanG]; exact hp
  | f + 1, p, hp => by
    unfold scanG
    obtain ⟨x, m, e, hn⟩ : ∃ x m e, nextF (b.drop p) = (x, m, e) := ⟨_, _, _, rfl⟩
    rw [hn]
    dsimp only
    by_cases he : e = 0
    · subst he
      have hok := next_ok hn
      rw [List.length_drop] at hok
      rw [if_neg (by simp)]
      have ih := scanG_len b f (p + m) (by omega)
      dsimp only
      rw [List.length_cons]
      omega
    · rw [if_pos he]; simp; exact hp
theorem scanF_len (b : List UInt8) : (scanF b).1.length ≤ b.length := by
  have := (scanG_len b (b.length + 1) 0 (by omega)).1
  unfold scanF; omega

set_option maxRecDepth 100000 in
set_option maxHeartbeats 4000000 in
theorem law_FrameAny (a : Option Addr) (m c : Nat) (zs : List Int) (w : World) (w0 : IsRow .u8 w a m c zs) :
    Calls Try.prog 11 #[.slice a m c] w fun e w' => e = .returned (.bool true) ∧ Below w.heap.size w w' := by
  have hr := Rd.of_row w0
  obtain ⟨l, hl⟩ : ∃ l, ((zs.take m).map fun n => UInt8.ofNat n.toNat) = l := ⟨_, rfl⟩
  rw [hl] at hr
  have HR := Lib.hid hr
  by_cases h4 : (4000 : Int) < m
  · clear w0 hl hr
    go_enter Try.func11, Try.ntmps11
    go_wp2_with (go_at_call 30; refine (awake10 w).mono ?_; rintro e w9 ⟨rfl, hb9⟩; have B9 := Lib.hid hb9; clear hb9)
    go_ret
    exact ⟨rfl, B9.out⟩
  · have hsl := scanF_len l
    rw [hr.hlen] at hsl
    obtain ⟨X, N, hX⟩ : ∃ X N, scanF l = (X, N) := ⟨_, _, rfl⟩
    rw [hX] at hsl
    dsimp only at hsl
    have HX := Lib.hid hX
    clear w0 hl hr hX
    go_enter Try.func11, Try.ntmps11
    go_wp2_with (first
      | (go_at_call 35; refine (fscan_any a m c l w HR.out (by omega)).mono ?_; rw [HX.out]; rintro e w1 ⟨v1, rfl, hf1, hb1⟩; have F1 := Lib.hid hf1; have B1 := Lib.hid hb1; clear hf1 hb1)
      | (go_at_call 36; refine (uscan_any a m c l w1 (HR.out.mono B1.out) (by omega)).mono ?_; rw [HX.out]; rintro e w2 ⟨v2, rfl, hf2, hb2⟩; have F2 := Lib.hid hf2; have G2 := Lib.hid (F1.out.kept hb2); have B2 := Lib.hid (B1.out.trans (hb2.mono B1.out.size)); clear hf2 hb2)
      | (go_at_call 37; refine (eqfunc _ _ v1 v2 X w2 G2.out F2.out (by omega)).mono ?_; rintro e w3 ⟨rfl, hb3⟩; have B3 := Lib.hid (B2.out.trans (hb3.mono B2.out.size)); clear hb3)
      | (go_at_call 30; refine (awake10 w3).mono ?_; rintro e w9 ⟨rfl, hb9⟩; have B9 := Lib.hid (B3.out.trans (hb9.mono B3.out.size)); clear hb9))
    go_ret
    exact ⟨rfl, B9.out⟩
end Go.Proofs.Ytfcbndjciojniaa.W
