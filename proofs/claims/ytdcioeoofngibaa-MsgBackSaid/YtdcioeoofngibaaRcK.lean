/- LAYER 11 (record), plain: there and back. -/
import Derived.Test.YtdcioeoofngibaaRcF
import Derived.Test.YtdcioeoofngibaaRcE
set_option linter.unusedSimpArgs false
set_option linter.unusedVariables false
namespace Go.Proofs.Ytdcioeoofngibaa.W
open Go Go.ChangeShapes Go.WideShapes Go.ChangeAt Go.RowKit
open Go.Proofs.Ytdcioeoofngibaa.P (enc dec)

theorem numZ (most : Int) (z : Int) (t : List UInt8) (h0 : 0 ≤ z) (hm : z ≤ most) (hb : most ≤ 2147483648) : numR most (encZ z ++ t) 0 = (z.toNat, t, 0) := num_enc most z.toNat t (by omega) (by omega)
theorem textL (most : Int) (s : List UInt8) (hm : (s.length : Int) ≤ most) (hb : most ≤ 2147483648) : textR most (enc s.length ++ s) 0 = (s, [], 0) := by
  have h := text_enc most ⟨s.toArray⟩ [] (by show s.toArray.size < _; simp; omega) (by show ¬ most < (s.toArray.size : Int); simp; omega)
  have h1 : (ByteArray.mk s.toArray).size = s.length := by show s.toArray.size = _; simp
  have h2 : (ByteArray.mk s.toArray).data.toList = s := rfl
  rw [h1, h2] at h
  simpa using h
theorem back_ent (e : En) (l : List UInt8) (hn : l.length = e.n) (h : enOk e = true) : rdE (codeE e l) 0 = ((e.ix, e.tm, e.kd, l), [], 0) := by
  obtain ⟨⟨a1, a2⟩, ⟨b1, b2⟩, ⟨c1, c2⟩, d1⟩ := enOk_facts h
  have e1 : codeE e l = encZ e.ix ++ (encZ e.tm ++ (encZ e.kd ++ (enc l.length ++ l))) := by simp [codeE]
  have h0 := numZ 2147483648 e.ix (encZ e.tm ++ (encZ e.kd ++ (enc l.length ++ l))) (by omega) (by omega) (by omega)
  have h1 := numZ 2147483648 e.tm (encZ e.kd ++ (enc l.length ++ l)) (by omega) (by omega) (by omega)
  have h2 := numZ 2 e.kd (enc l.length ++ l) (by omega) (by omega) (by omega)
  have h3 := textL 4096 l (by omega) (by omega)
  have hok : okP e.ix e.tm e.kd l.length = true := by
    rw [← h]; unfold okP enOk; rw [hn]
  rw [rdE, eR3, eR2, eR1, e1, h0]; dsimp only; rw [h1]; dsimp only; rw [h2]; dsimp only; rw [h3]; dsimp only
  rw [show ((e.ix.toNat : Nat) : Int) = e.ix by omega, show ((e.tm.toNat : Nat) : Int) = e.tm by omega, show ((e.kd.toNat : Nat) : Int) = e.kd by omega]
  exact finE_ok hok
/-- what a record that may be has as bytes is read as this record -/
theorem back_enc (r : Rc) (l s : List UInt8) (hl : l.length = r.e.n) (hs : s.length = r.n) (hc : chkR r l s = 0) :
    ∃ F : RF, rdR (encR r l s) 0 = (F, [], 0) ∧ F.rc r.e.a r.e.n r.e.c r.a r.n r.c = r ∧ F.dt = l ∧ F.sn = s := by
  have hf := chk_facts hc
  have hself : selfR r l s = true := by
    unfold chkR at hc
    cases h : selfR r l s
    · rw [h] at hc; simp at hc
    · rfl
  obtain ⟨k, t, v, ⟨ix, tm, kd, ea, en, ec⟩, i, f, a, n, c⟩ := r
  dsimp only at hl hs
  rcases kinds k with rfl | rfl | rfl | rfl | ⟨k1, k2, k3, k4⟩
  · obtain ⟨⟨i1, i2⟩, ⟨t1, t2⟩, ⟨f1, f2⟩, n1⟩ := fits1 hf
    obtain ⟨-, -, -, q4, q5⟩ := self_spec (by dsimp only; decide) hself
    dsimp only at q4 q5
    obtain rfl := q4 (by decide)
    obtain ⟨rfl, rfl, rfl, rfl⟩ := q5 (by decide)
    refine ⟨⟨1, t, 0, 0, 0, 0, [], i, f, s⟩, ?_, rfl, rfl, rfl⟩
    have e1 : encR ⟨1, t, 0, ⟨0, 0, 0, ea, en, ec⟩, i, f, a, n, c⟩ [] s = encZ 1 ++ (encZ i ++ (encZ t ++ (encZ f ++ (enc s.length ++ s)))) := by simp [encR]
    have h0 := numZ 4 1 (encZ i ++ (encZ t ++ (encZ f ++ (enc s.length ++ s)))) (by omega) (by omega) (by omega)
    have h1 := numZ 2147483648 i (encZ t ++ (encZ f ++ (enc s.length ++ s))) (by omega) (by omega) (by omega)
    have h2 := numZ 2147483648 t (encZ f ++ (enc s.length ++ s)) (by omega) (by omega) (by omega)
    have h3 := numZ 127 f (enc s.length ++ s) (by omega) (by omega) (by omega)
    have h4 := textL 131072 s (by omega) (by omega)
    rw [rdR, e1, h0]; dsimp only
    rw [rdK, if_pos (by decide), rd1, h1]; dsimp only; rw [h2]; dsimp only; rw [h3]; dsimp only; rw [h4]; dsimp only
    rw [show ((i.toNat : Nat) : Int) = i by omega, show ((t.toNat : Nat) : Int) = t by omega, show ((f.toNat : Nat) : Int) = f by omega]
  · obtain ⟨⟨t1, t2⟩, ⟨v1, v2⟩⟩ := fits2 hf
    obtain ⟨q1, q2, -, -, q5⟩ := self_spec (by dsimp only; decide) hself
    dsimp only at q1 q2 q5
    obtain ⟨rfl, rfl⟩ := q1 (by decide)
    obtain rfl := q2 (by decide) (by decide)
    obtain ⟨rfl, rfl, rfl, rfl⟩ := q5 (by decide)
    refine ⟨⟨2, t, v, 0, 0, 0, [], 0, 0, []⟩, ?_, rfl, rfl, rfl⟩
    have e1 : encR ⟨2, t, v, ⟨0, 0, 0, ea, en, ec⟩, 0, 0, a, n, c⟩ [] [] = encZ 2 ++ (encZ t ++ (encZ v ++ [])) := by simp [encR]
    have h0 := numZ 4 2 (encZ t ++ (encZ v ++ [])) (by omega) (by omega) (by omega)
    have h1 := numZ 2147483648 t (encZ v ++ []) (by omega) (by omega) (by omega)
    have h2 := numZ 7 v [] (by omega) (by omega) (by omega)
    rw [rdR, e1, h0]; dsimp only
    rw [rdK, if_neg (by decide), if_pos (by decide), rd2, h1]; dsimp only; rw [h2]; dsimp only
    rw [show ((t.toNat : Nat) : Int) = t by omega, show ((v.toNat : Nat) : Int) = v by omega]
  · have hok := fits3 hf
    obtain ⟨q1, q2, q3, q4, -⟩ := self_spec (by dsimp only; decide) hself
    dsimp only at q1 q2 q3 q4
    obtain ⟨rfl, rfl⟩ := q1 (by decide)
    obtain rfl := q2 (by decide) (by decide)
    obtain rfl := q3 (by decide) (by decide)
    obtain rfl := q4 (by decide)
    refine ⟨⟨3, 0, 0, ix, tm, kd, l, 0, 0, []⟩, ?_, rfl, rfl, rfl⟩
    have e1 : encR ⟨3, 0, 0, ⟨ix, tm, kd, ea, en, ec⟩, 0, 0, a, n, c⟩ l [] = encZ 3 ++ codeE ⟨ix, tm, kd, ea, en, ec⟩ l := by simp [encR]
    have h0 := numZ 4 3 (codeE ⟨ix, tm, kd, ea, en, ec⟩ l) (by omega) (by omega) (by omega)
    rw [rdR, e1, h0]; dsimp only
    rw [rdK, if_neg (by decide), if_neg (by decide), if_pos (by decide), rd3, back_ent _ l hl hok]
  · obtain ⟨i1, i2⟩ := fits4 hf
    obtain ⟨q1, -, q3, q4, q5⟩ := self_spec (by dsimp only; decide) hself
    dsimp only at q1 q3 q4 q5
    obtain ⟨rfl, rfl⟩ := q1 (by decide)
    obtain rfl := q3 (by decide) (by decide)
    obtain rfl := q4 (by decide)
    obtain ⟨rfl, rfl, rfl, rfl⟩ := q5 (by decide)
    refine ⟨⟨4, 0, 0, 0, 0, 0, [], i, 0, []⟩, ?_, rfl, rfl, rfl⟩
    have e1 : encR ⟨4, 0, 0, ⟨0, 0, 0, ea, en, ec⟩, i, 0, a, n, c⟩ [] [] = encZ 4 ++ (encZ i ++ []) := by simp [encR]
    have h0 := numZ 4 4 (encZ i ++ []) (by omega) (by omega) (by omega)
    have h1 := numZ 2147483648 i [] (by omega) (by omega) (by omega)
    rw [rdR, e1, h0]; dsimp only
    rw [rdK, if_neg (by decide), if_neg (by decide), if_neg (by decide), if_pos (by decide), rd4, h1]; dsimp only
    rw [show ((i.toNat : Nat) : Int) = i by omega]
  · rw [fitsk k1 k2 k3 k4] at hf; cases hf
theorem chk_same {F : RF} {r : Rc} {l s : List UInt8} (hl : l.length = r.e.n) (hs : s.length = r.n) (h : F.rc r.e.a r.e.n r.e.c r.a r.n r.c = r) (hd : F.dt = l) (hn : F.sn = s) : chkF F = chkR r l s := by
  unfold chkF
  rw [hd, hn, hl, hs, ← chk_any F r.e.a r.e.n r.e.c r.a r.n r.c, h]
theorem dec_enc (r : Rc) (l s : List UInt8) (hl : l.length = r.e.n) (hs : s.length = r.n) (hc : chkR r l s = 0) :
    ∃ F : RF, decV (rdR (encR r l s) 0) = (F, 0) ∧ ∀ ea en ec a n c, sameR (F.rc ea en ec a n c) r F.dt l F.sn s = true := by
  obtain ⟨F, h1, h2, h3, h4⟩ := back_enc r l s hl hs hc
  have hk := chk_same hl hs h2 h3 h4
  refine ⟨F, ?_, ?_⟩
  · unfold decV; rw [h1]; dsimp only; rw [hk, hc, if_pos rfl, if_pos (by decide)]
  · intro ea en ec a n c
    rw [h3, h4, ← h2]
    simp [sameR, sameE, RF.rc]
-- ---- the other way
theorem num_ok {most : Int} {l : List UInt8} {e : Int} (h : (numR most l e).2.2 = 0) : e = 0 := by
  by_cases he : e = 0
  · exact he
  · rw [numR_err he] at h; exact h
theorem text_ok {most : Int} {l : List UInt8} {e : Int} (h : (textR most l e).2.2 = 0) : e = 0 := by
  by_cases he : e = 0
  · exact he
  · rw [textR_err he] at h; exact absurd h he
theorem encN (n : Nat) : encZ (n : Int) = enc n := by unfold encZ; simp
theorem ent_back {l t d : List UInt8} {x y z : Int} (h : rdE l 0 = ((x, y, z, d), t, 0)) (e : En) (hx : e.ix = x) (hy : e.tm = y) (hz : e.kd = z) : codeE e d ++ t = l := by
  obtain ⟨B0, l1, e1, h0⟩ : ∃ x y z, numR 2147483648 l 0 = (x, y, z) := ⟨_, _, _, rfl⟩
  obtain ⟨B1, l2, e2, h1⟩ : ∃ x y z, numR 2147483648 l1 e1 = (x, y, z) := ⟨_, _, _, rfl⟩
  obtain ⟨B2, l3, e3, h2⟩ : ∃ x y z, numR 2 l2 e2 = (x, y, z) := ⟨_, _, _, rfl⟩
  obtain ⟨tx, l4, e4, h3⟩ : ∃ x y z, textR 4096 l3 e3 = (x, y, z) := ⟨_, _, _, rfl⟩
  have hR : finE B0 B1 B2 tx l4 e4 = ((x, y, z, d), t, 0) := by
    rw [← h, rdE, eR3, eR2, eR1, h0]; dsimp only; rw [h1]; dsimp only; rw [h2]; dsimp only; rw [h3]
  have he4 : e4 = 0 := by
    by_cases he : e4 = 0
    · exact he
    · rw [finE_err he] at hR; simp only [Prod.mk.injEq] at hR; exact hR.2.2
  subst he4
  have hok : okP B0 B1 B2 tx.length = true := by
    cases ho : okP B0 B1 B2 tx.length
    · rw [finE_no ho] at hR; simp only [Prod.mk.injEq] at hR; exact absurd hR.2.2 (failE_ne 0)
    · rfl
  rw [finE_ok hok] at hR
  simp only [Prod.mk.injEq] at hR
  obtain ⟨⟨r0, r1, r2, r3⟩, r4, -⟩ := hR
  subst r3 r4
  obtain rfl : e3 = 0 := text_ok (most := 4096) (l := l3) (by rw [h3])
  obtain rfl : e2 = 0 := num_ok (most := 2) (l := l2) (by rw [h2])
  obtain rfl : e1 = 0 := num_ok (most := 2147483648) (l := l1) (by rw [h1])
  have b0 := (num_back 2147483648 l (by rw [h0])).1
  have b1 := (num_back 2147483648 l1 (by rw [h1])).1
  have b2 := (num_back 2 l2 (by rw [h2])).1
  have b3 := (text_back 4096 l3 (by rw [h3])).1
  rw [h0] at b0; rw [h1] at b1; rw [h2] at b2; rw [h3] at b3
  dsimp only at b0 b1 b2 b3
  rw [← b0, ← b1, ← b2, ← b3]
  unfold codeE
  rw [hx, hy, hz, ← r0, ← r1, ← r2]
  simp [encN]
/-- what was read has just these bytes -/
theorem enc_back {b : List UInt8} {F : RF} (h : rdR b 0 = (F, [], 0)) (hc : chkF F = 0) (ea : Option Addr) (en ec : Nat) (a : Option Addr) (n c : Nat) : encR (F.rc ea en ec a n c) F.dt F.sn = b := by
  obtain ⟨k, l1, e1, h0⟩ : ∃ x y z, numR 4 b 0 = (x, y, z) := ⟨_, _, _, rfl⟩
  have hq : rdK k l1 e1 = (F, [], 0) := by rw [← h, rdR, h0]
  by_cases he1 : e1 = 0
  · subst he1
    have b0 := (num_back 4 b (by rw [h0])).1
    rw [h0] at b0
    dsimp only at b0
    rw [← b0]
    by_cases k1 : k = 1
    · subst k1
      obtain ⟨B1, l2, e2, h1⟩ : ∃ x y z, numR 2147483648 l1 0 = (x, y, z) := ⟨_, _, _, rfl⟩
      obtain ⟨B2, l3, e3, h2⟩ : ∃ x y z, numR 2147483648 l2 e2 = (x, y, z) := ⟨_, _, _, rfl⟩
      obtain ⟨B3, l4, e4, h3⟩ : ∃ x y z, numR 127 l3 e3 = (x, y, z) := ⟨_, _, _, rfl⟩
      obtain ⟨tx, l5, e5, h4⟩ : ∃ x y z, textR 131072 l4 e4 = (x, y, z) := ⟨_, _, _, rfl⟩
      have hK : rdK 1 l1 0 = (⟨1, B2, 0, 0, 0, 0, [], B1, B3, tx⟩, l5, e5) := by rw [rdK, if_pos rfl, rd1, h1]; dsimp only; rw [h2]; dsimp only; rw [h3]; dsimp only; rw [h4]
      rw [hK] at hq
      simp only [Prod.mk.injEq] at hq
      obtain ⟨rfl, rfl, rfl⟩ := hq
      obtain rfl : e4 = 0 := text_ok (most := 131072) (l := l4) (by rw [h4])
      obtain rfl : e3 = 0 := num_ok (most := 127) (l := l3) (by rw [h3])
      obtain rfl : e2 = 0 := num_ok (most := 2147483648) (l := l2) (by rw [h2])
      have b1 := (num_back 2147483648 l1 (by rw [h1])).1
      have b2 := (num_back 2147483648 l2 (by rw [h2])).1
      have b3 := (num_back 127 l3 (by rw [h3])).1
      have b4 := (text_back 131072 l4 (by rw [h4])).1
      rw [h1] at b1; rw [h2] at b2; rw [h3] at b3; rw [h4] at b4
      dsimp only at b1 b2 b3 b4
      rw [← b1, ← b2, ← b3, ← b4]
      simp [encR, RF.rc, encN]
      rfl
    by_cases k2 : k = 2
    · subst k2
      obtain ⟨B1, l2, e2, h1⟩ : ∃ x y z, numR 2147483648 l1 0 = (x, y, z) := ⟨_, _, _, rfl⟩
      obtain ⟨B2, l3, e3, h2⟩ : ∃ x y z, numR 7 l2 e2 = (x, y, z) := ⟨_, _, _, rfl⟩
      have hK : rdK 2 l1 0 = (⟨2, B1, B2, 0, 0, 0, [], 0, 0, []⟩, l3, e3) := by rw [rdK, if_neg (by decide), if_pos rfl, rd2, h1]; dsimp only; rw [h2]
      rw [hK] at hq
      simp only [Prod.mk.injEq] at hq
      obtain ⟨rfl, rfl, rfl⟩ := hq
      obtain rfl : e2 = 0 := num_ok (most := 7) (l := l2) (by rw [h2])
      have b1 := (num_back 2147483648 l1 (by rw [h1])).1
      have b2 := (num_back 7 l2 (by rw [h2])).1
      rw [h1] at b1; rw [h2] at b2
      dsimp only at b1 b2
      rw [← b1, ← b2]
      simp [encR, RF.rc, encN]
      rfl
    by_cases k3 : k = 3
    · subst k3
      obtain ⟨⟨ix, tm, kd, dt⟩, l2, e2, h1⟩ : ∃ x y z, rdE l1 0 = (x, y, z) := ⟨_, _, _, rfl⟩
      have hK : rdK 3 l1 0 = (⟨3, 0, 0, ix, tm, kd, dt, 0, 0, []⟩, l2, e2) := by rw [rdK, if_neg (by decide), if_neg (by decide), if_pos rfl, rd3, h1]
      rw [hK] at hq
      simp only [Prod.mk.injEq] at hq
      obtain ⟨rfl, rfl, rfl⟩ := hq
      have b1 := ent_back h1 ⟨ix, tm, kd, ea, en, ec⟩ rfl rfl rfl
      rw [← b1]
      simp [encR, RF.rc]
      rfl
    by_cases k4 : k = 4
    · subst k4
      obtain ⟨B1, l2, e2, h1⟩ : ∃ x y z, numR 2147483648 l1 0 = (x, y, z) := ⟨_, _, _, rfl⟩
      have hK : rdK 4 l1 0 = (⟨4, 0, 0, 0, 0, 0, [], B1, 0, []⟩, l2, e2) := by rw [rdK, if_neg (by decide), if_neg (by decide), if_neg (by decide), if_pos rfl, rd4, h1]
      rw [hK] at hq
      simp only [Prod.mk.injEq] at hq
      obtain ⟨rfl, rfl, rfl⟩ := hq
      have b1 := (num_back 2147483648 l1 (by rw [h1])).1
      rw [h1] at b1
      dsimp only at b1
      rw [← b1]
      simp [encR, RF.rc, encN]
      rfl
    · have hK : rdK k l1 0 = (RF.z k, l1, 0) := by unfold rdK; rw [if_neg k1, if_neg k2, if_neg k3, if_neg k4]
      rw [hK] at hq
      simp only [Prod.mk.injEq] at hq
      obtain ⟨rfl, -⟩ := hq
      exfalso
      have hf : fitsR ((RF.z (k : Int)).rc none (RF.z (k : Int)).dt.length 0 none (RF.z (k : Int)).sn.length 0) = true := chk_facts hc
      have hk : fitsR ⟨(k : Int), 0, 0, ⟨0, 0, 0, none, 0, 0⟩, 0, 0, none, 0, 0⟩ = false := fitsk (by simp; omega) (by simp; omega) (by simp; omega) (by simp; omega)
      exact absurd (hf.symm.trans hk) (by decide)
  · exfalso
    have hz : k = 0 := by
      have := numR_zero (most := 4) (l := b) (e := 0) (by rw [h0]; exact he1)
      rw [h0] at this; exact this
    subst hz
    have hK : rdK 0 l1 e1 = (RF.z ((0 : Nat) : Int), l1, e1) := by unfold rdK; rw [if_neg (by decide), if_neg (by decide), if_neg (by decide), if_neg (by decide)]
    rw [hK] at hq
    simp only [Prod.mk.injEq] at hq
    exact he1 hq.2.2
theorem dec_ok {q : RF × List UInt8 × Int} {F : RF} (h : decV q = (F, 0)) : q = (F, [], 0) ∧ chkF F = 0 := by
  obtain ⟨F0, l, e⟩ := q
  unfold decV at h
  dsimp only at h
  by_cases h1 : chkF F0 = 0
  · rw [if_pos h1] at h
    by_cases h2 : endV l e = 0
    · rw [if_pos h2] at h
      simp only [Prod.mk.injEq] at h
      obtain ⟨rfl, -⟩ := h
      refine ⟨?_, h1⟩
      unfold endV at h2
      by_cases he : e = 0
      · subst he
        rw [if_neg (by simp)] at h2
        by_cases hl : l.length = 0
        · have : l = [] := List.length_eq_zero_iff.1 hl
          rw [this]
        · rw [if_neg hl] at h2; simp at h2
      · rw [if_pos he] at h2; exact absurd h2 he
    · rw [if_neg h2] at h
      simp only [Prod.mk.injEq] at h
      exact absurd h.2 h2
  · rw [if_neg h1] at h
    simp only [Prod.mk.injEq] at h
    exact absurd h.2 (failE_ne e)
theorem enc_dec {b : List UInt8} {F : RF} (h : decV (rdR b 0) = (F, 0)) {w : World} {ea a : Option Addr} {en ec n c : Nat} (hl : Rd w ea en ec F.dt) (hs : Rd w a n c F.sn) :
    chkR (F.rc ea en ec a n c) F.dt F.sn = 0 ∧ encV (F.rc ea en ec a n c) F.dt F.sn = b := by
  obtain ⟨h1, h2⟩ := dec_ok h
  have h3 : chkR (F.rc ea en ec a n c) F.dt F.sn = 0 := by rw [chkF_of hl hs]; exact h2
  refine ⟨h3, ?_⟩
  unfold encV
  rw [if_pos h3]
  exact enc_back h1 h2 ea en ec a n c
/-- a bound of the bytes' length -/
theorem enc_small (r : Rc) (l s : List UInt8) (hl : l.length = r.e.n) (hs : s.length = r.n) (hc : chkR r l s = 0) : (encR r l s).length ≤ 140737488355000 := by
  have hf := chk_facts hc
  obtain ⟨k, t, v, ⟨ix, tm, kd, ea, en, ec⟩, i, f, a, n, c⟩ := r
  dsimp only at hl hs
  rcases kinds k with rfl | rfl | rfl | rfl | ⟨k1, k2, k3, k4⟩
  · obtain ⟨⟨i1, i2⟩, ⟨t1, t2⟩, ⟨f1, f2⟩, n1⟩ := fits1 hf
    have x0 := encZ_len 1 (by omega); have x1 := encZ_len i (by omega); have x2 := encZ_len t (by omega); have x3 := encZ_len f (by omega); have x4 := P.enc_len s.length (by omega)
    simp [encR]; omega
  · obtain ⟨⟨t1, t2⟩, ⟨v1, v2⟩⟩ := fits2 hf
    have x0 := encZ_len 2 (by omega); have x1 := encZ_len t (by omega); have x2 := encZ_len v (by omega)
    simp [encR]; omega
  · obtain ⟨⟨a1, a2⟩, ⟨b1, b2⟩, ⟨c1, c2⟩, d1⟩ := enOk_facts (fits3 hf)
    dsimp only at a1 a2 b1 b2 c1 c2 d1
    have x0 := encZ_len 3 (by omega); have x1 := encZ_len ix (by omega); have x2 := encZ_len tm (by omega); have x3 := encZ_len kd (by omega); have x4 := P.enc_len l.length (by omega)
    simp [encR, codeE]; omega
  · obtain ⟨i1, i2⟩ := fits4 hf
    have x0 := encZ_len 4 (by omega); have x1 := encZ_len i (by omega)
    simp [encR]; omega
  · rw [fitsk k1 k2 k3 k4] at hf; cases hf
end Go.Proofs.Ytdcioeoofngibaa.W
