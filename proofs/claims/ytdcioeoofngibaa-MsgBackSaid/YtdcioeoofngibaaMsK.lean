/- LAYER 16 (msg), plain: a message's bytes; there and back. -/
import Derived.Test.YtdcioeoofngibaaMsO
import Derived.Test.YtdcioeoofngibaaRcK
set_option linter.unusedSimpArgs false
set_option linter.unusedVariables false
namespace Go.Proofs.Ytdcioeoofngibaa.W
open Go Go.ChangeShapes Go.WideShapes Go.ChangeAt Go.RowKit
open Go.Proofs.Ytdcioeoofngibaa.P (enc dec)

abbrev EP := Int × Int × Int × List UInt8
def codeP (x : EP) : List UInt8 := encZ x.1 ++ (encZ x.2.1 ++ (encZ x.2.2.1 ++ (enc x.2.2.2.length ++ x.2.2.2)))
theorem codeP_pe (e : En) (l : List UInt8) : codeP (pe (e, l)) = codeE e l := by simp [codeP, pe, codeE]
/-- a field's bytes -/
def putM (m : MF) (f : Nat) : List UInt8 :=
  if f = 0 then encZ m.ix else if f = 1 then encZ m.lt else if f = 2 then encZ m.cm else if f = 3 then encZ m.rn else if f = 4 then encZ m.cf
  else if f = 5 then [if m.ok then 1 else 0] else if f = 6 then enc m.l.length ++ m.l.flatMap codeP else if f = 7 then enc m.d.length ++ m.d else enc m.s.length ++ m.s
def encM (m : MF) : List UInt8 := encZ m.k ++ (encZ m.fr ++ (encZ m.dt ++ (encZ m.tm ++ (fieldsV m.k).flatMap (putM m))))
/-- some entries, one behind the other -/
def rdEs : Nat → List UInt8 → Int → List EP × List UInt8 × Int
  | 0, l, e => ([], l, e)
  | n + 1, l, e => ((rdEs n l e).1 ++ [(rdE (rdEs n l e).2.1 (rdEs n l e).2.2).1], (rdE (rdEs n l e).2.1 (rdEs n l e).2.2).2)
/-- a field is read -/
def takeM (q : MF × List UInt8 × Int) (f : Nat) : MF × List UInt8 × Int :=
  if f = 0 then ({ q.1 with ix := ((numR 2147483648 q.2.1 q.2.2).1 : Int) }, (numR 2147483648 q.2.1 q.2.2).2) else if f = 1 then ({ q.1 with lt := ((numR 2147483648 q.2.1 q.2.2).1 : Int) }, (numR 2147483648 q.2.1 q.2.2).2)
  else if f = 2 then ({ q.1 with cm := ((numR 2147483648 q.2.1 q.2.2).1 : Int) }, (numR 2147483648 q.2.1 q.2.2).2) else if f = 3 then ({ q.1 with rn := ((numR 2147483648 q.2.1 q.2.2).1 : Int) }, (numR 2147483648 q.2.1 q.2.2).2)
  else if f = 4 then ({ q.1 with cf := ((numR 127 q.2.1 q.2.2).1 : Int) }, (numR 127 q.2.1 q.2.2).2) else if f = 5 then ({ q.1 with ok := (yesR q.2.1 q.2.2).1 }, (yesR q.2.1 q.2.2).2)
  else if f = 6 then ({ q.1 with l := (rdEs (numR 8 q.2.1 q.2.2).1 (numR 8 q.2.1 q.2.2).2.1 (numR 8 q.2.1 q.2.2).2.2).1 }, (rdEs (numR 8 q.2.1 q.2.2).1 (numR 8 q.2.1 q.2.2).2.1 (numR 8 q.2.1 q.2.2).2.2).2)
  else if f = 7 then ({ q.1 with d := (textR 131072 q.2.1 q.2.2).1 }, (textR 131072 q.2.1 q.2.2).2) else ({ q.1 with s := (textR 32 q.2.1 q.2.2).1 }, (textR 32 q.2.1 q.2.2).2)
def MF.z (k fr dt tm : Int) : MF := ⟨k, fr, dt, tm, 0, 0, 0, 0, 0, false, [], [], []⟩
def hM1 (l : List UInt8) := numR 6 (numR 11 l 0).2.1 (numR 11 l 0).2.2
def hM2 (l : List UInt8) := numR 6 (hM1 l).2.1 (hM1 l).2.2
def hM3 (l : List UInt8) := numR 2147483648 (hM2 l).2.1 (hM2 l).2.2
def readM (l : List UInt8) : MF × List UInt8 × Int := (fieldsV ((numR 11 l 0).1 : Int)).foldl takeM (MF.z (numR 11 l 0).1 (hM1 l).1 (hM2 l).1 (hM3 l).1, (hM3 l).2)
def decM (q : MF × List UInt8 × Int) : MF × Int :=
  if q.2.2 = 0 ∧ q.1.chk ≠ 0 then (MF.z 0 0 0 0, 3) else if endV q.2.1 q.2.2 ≠ 0 then (MF.z 0 0 0 0, endV q.2.1 q.2.2) else (q.1, 0)

-- ---- there
theorem textT (most : Int) (s t : List UInt8) (hm : (s.length : Int) ≤ most) (hb : most ≤ 2147483648) : textR most (enc s.length ++ (s ++ t)) 0 = (s, t, 0) := by
  have h := text_enc most ⟨s.toArray⟩ t (by show s.toArray.size < _; simp; omega) (by show ¬ most < (s.toArray.size : Int); simp; omega)
  have h1 : (ByteArray.mk s.toArray).size = s.length := by show s.toArray.size = _; simp
  have h2 : (ByteArray.mk s.toArray).data.toList = s := rfl
  rw [h1, h2] at h
  exact h
theorem okE_facts {x : EP} (h : okE x = true) : (1 ≤ x.1 ∧ x.1 ≤ 2147483648) ∧ (0 ≤ x.2.1 ∧ x.2.1 ≤ 2147483648) ∧ (0 ≤ x.2.2.1 ∧ x.2.2.1 ≤ 2) ∧ x.2.2.2.length ≤ 4096 := by
  unfold okE inV at h; simp at h; omega
theorem okP_of (x : EP) : okP x.1 x.2.1 x.2.2.1 x.2.2.2.length = okE x := rfl
theorem rdE_put (x : EP) (t : List UInt8) (h : okE x = true) : rdE (codeP x ++ t) 0 = (x, t, 0) := by
  obtain ⟨a, b, c, d⟩ := okE_facts h
  have hok := (okP_of x).trans h
  obtain ⟨ix, tm, kd, l⟩ := x
  dsimp only at a b c d hok
  have e1 : codeP (ix, tm, kd, l) ++ t = encZ ix ++ (encZ tm ++ (encZ kd ++ (enc l.length ++ (l ++ t)))) := by simp [codeP]
  have h0 := numZ 2147483648 ix (encZ tm ++ (encZ kd ++ (enc l.length ++ (l ++ t)))) (by omega) (by omega) (by omega)
  have h1 := numZ 2147483648 tm (encZ kd ++ (enc l.length ++ (l ++ t))) (by omega) (by omega) (by omega)
  have h2 := numZ 2 kd (enc l.length ++ (l ++ t)) (by omega) (by omega) (by omega)
  have h3 := textT 4096 l t (by omega) (by omega)
  rw [rdE, eR3, eR2, eR1, e1, h0]; dsimp only; rw [h1]; dsimp only; rw [h2]; dsimp only; rw [h3]; dsimp only
  rw [show ((ix.toNat : Nat) : Int) = ix by omega, show ((tm.toNat : Nat) : Int) = tm by omega, show ((kd.toNat : Nat) : Int) = kd by omega]
  exact finE_ok hok
theorem rdEs_put (L : List EP) (hL : ∀ x ∈ L, okE x = true) (t : List UInt8) : ∀ n, n ≤ L.length → rdEs n (L.flatMap codeP ++ t) 0 = (L.take n, (L.drop n).flatMap codeP ++ t, 0)
  | 0, _ => rfl
  | n + 1, h => by
    have hn : n < L.length := by omega
    have ih := rdEs_put L hL t n (by omega)
    simp only [rdEs]
    rw [ih]
    simp only
    have hd : L.drop n = L[n] :: L.drop (n + 1) := List.drop_eq_getElem_cons hn
    rw [hd, List.flatMap_cons, List.append_assoc, rdE_put _ _ (hL L[n] (List.getElem_mem hn)), List.take_succ_eq_append_getElem hn]
theorem rdEs_all (L : List EP) (hL : ∀ x ∈ L, okE x = true) (t : List UInt8) : rdEs L.length (L.flatMap codeP ++ t) 0 = (L, t, 0) := by
  rw [rdEs_put L hL t _ (Nat.le_refl _)]; simp
structure MFits (m : MF) : Prop where
  k : 1 ≤ m.k ∧ m.k ≤ 11
  fr : 0 ≤ m.fr ∧ m.fr ≤ 6
  dt : 0 ≤ m.dt ∧ m.dt ≤ 6
  tm : 0 ≤ m.tm ∧ m.tm ≤ 2147483648
  ix : 0 ≤ m.ix ∧ m.ix ≤ 2147483648
  lt : 0 ≤ m.lt ∧ m.lt ≤ 2147483648
  cm : 0 ≤ m.cm ∧ m.cm ≤ 2147483648
  rn : 0 ≤ m.rn ∧ m.rn ≤ 2147483648
  cf : 0 ≤ m.cf ∧ m.cf ≤ 127
  l : m.l.length ≤ 8
  d : m.d.length ≤ 131072
  s : m.s.length ≤ 32
  es : ∀ x ∈ m.l, okE x = true
theorem MF.facts {m : MF} (h : m.fits = true) : MFits m := by
  unfold MF.fits inV at h
  simp only [Bool.and_eq_true, decide_eq_true_eq, Bool.or_eq_true, List.all_eq_true] at h
  obtain ⟨h0, h1, h2, -, h3, h4, h5, h6, h7, h8, h9, h10, h11, h12⟩ := h
  exact ⟨h0, h1, h2, h3, h4, h5, h6, h7, h8, h9, h10, by omega, h12⟩
theorem chk_zero {m : MF} (h : m.chk = 0) : m.fits = true ∧ m.only = m := by
  unfold MF.chk at h
  by_cases hc : m.fits = true ∧ m.same m.only = true
  · exact ⟨hc.1, (MF.same_iff.1 hc.2).symm⟩
  · rw [if_neg hc] at h; exact absurd h (by decide)
theorem take_put (o m : MF) (h : MFits m) (t : List UInt8) (f : Nat) (hf : f < 9) : takeM (o, putM m f ++ t, 0) f = (o.setF m f, t, 0) := by
  rcases (show f = 0 ∨ f = 1 ∨ f = 2 ∨ f = 3 ∨ f = 4 ∨ f = 5 ∨ f = 6 ∨ f = 7 ∨ f = 8 by omega) with rfl | rfl | rfl | rfl | rfl | rfl | rfl | rfl | rfl
  · have := h.ix; have h0 := numZ 2147483648 m.ix t (by omega) (by omega) (by omega)
    simp only [takeM, putM, MF.setF, if_pos]; rw [h0]; simp only; rw [show ((m.ix.toNat : Nat) : Int) = m.ix by omega]
  · have := h.lt; have h0 := numZ 2147483648 m.lt t (by omega) (by omega) (by omega)
    simp [takeM, putM, MF.setF, h0]; omega
  · have := h.cm; have h0 := numZ 2147483648 m.cm t (by omega) (by omega) (by omega)
    simp [takeM, putM, MF.setF, h0]; omega
  · have := h.rn; have h0 := numZ 2147483648 m.rn t (by omega) (by omega) (by omega)
    simp [takeM, putM, MF.setF, h0]; omega
  · have := h.cf; have h0 := numZ 127 m.cf t (by omega) (by omega) (by omega)
    simp [takeM, putM, MF.setF, h0]; omega
  · have h0 : yesR ((if m.ok then (1 : UInt8) else 0) :: t) 0 = (m.ok, t, 0) := by cases m.ok <;> rfl
    simp [takeM, putM, MF.setF, h0]
  · have := h.l
    have h0 := num_enc 8 m.l.length (m.l.flatMap codeP ++ t) (by omega) (by omega)
    simp [takeM, putM, MF.setF, h0, rdEs_all m.l h.es t]
  · have := h.d; have h0 := textT 131072 m.d t (by omega) (by omega)
    simp [takeM, putM, MF.setF, h0]
  · have := h.s; have h0 := textT 32 m.s t (by omega) (by omega)
    simp [takeM, putM, MF.setF, h0]
theorem fold_put (m : MF) (h : MFits m) (t : List UInt8) : ∀ (fs : List Nat) (o : MF), (∀ f ∈ fs, f < 9) → fs.foldl takeM (o, fs.flatMap (putM m) ++ t, 0) = (fs.foldl (fun o f => o.setF m f) o, t, 0)
  | [], _, _ => rfl
  | f :: fs, o, hf => by
    rw [List.foldl_cons, List.foldl_cons, List.flatMap_cons, List.append_assoc, take_put o m h _ f (hf f (by simp))]
    exact fold_put m h t fs _ (fun g hg => hf g (by simp [hg]))
theorem fields_lt9 (k : Int) : ∀ f ∈ fieldsV k, f < 9 := by
  unfold fieldsV
  repeat' split
  all_goals decide
theorem read_encM (m : MF) (hm : m.chk = 0) : readM (encM m) = (m, [], 0) := by
  obtain ⟨hf, ho⟩ := chk_zero hm
  have h := MF.facts hf
  have := h.k; have := h.fr; have := h.dt; have := h.tm
  have h0 := numZ 11 m.k (encZ m.fr ++ (encZ m.dt ++ (encZ m.tm ++ (fieldsV m.k).flatMap (putM m)))) (by omega) (by omega) (by omega)
  have h1 := numZ 6 m.fr (encZ m.dt ++ (encZ m.tm ++ (fieldsV m.k).flatMap (putM m))) (by omega) (by omega) (by omega)
  have h2 := numZ 6 m.dt (encZ m.tm ++ (fieldsV m.k).flatMap (putM m)) (by omega) (by omega) (by omega)
  have h3 := numZ 2147483648 m.tm ((fieldsV m.k).flatMap (putM m)) (by omega) (by omega) (by omega)
  have h4 := fold_put m h [] (fieldsV m.k) (MF.z m.k m.fr m.dt m.tm) (fields_lt9 m.k)
  rw [List.append_nil] at h4
  unfold readM hM3 hM2 hM1 encM
  rw [h0]; dsimp only; rw [h1]; dsimp only; rw [h2]; dsimp only; rw [h3]; dsimp only
  rw [show ((m.k.toNat : Nat) : Int) = m.k by omega, show ((m.fr.toNat : Nat) : Int) = m.fr by omega, show ((m.dt.toNat : Nat) : Int) = m.dt by omega, show ((m.tm.toNat : Nat) : Int) = m.tm by omega, h4]
  rw [show (fieldsV m.k).foldl (fun o f => o.setF m f) (MF.z m.k m.fr m.dt m.tm) = m.only from rfl, ho]
theorem dec_encM (m : MF) (hm : m.chk = 0) : decM (readM (encM m)) = (m, 0) := by
  rw [read_encM m hm]
  unfold decM
  rw [if_neg (by simp [hm]), if_neg (by simp [endV])]

-- ---- and back
theorem textR_e {most : Int} {l : List UInt8} {e : Int} (h : e ≠ 0) : textR most l e = ([], l, e) := by unfold textR; rw [numR_err h]; dsimp only; rw [if_pos h]
theorem rdE_err {l : List UInt8} {e : Int} (h : e ≠ 0) : (rdE l e).2.2 ≠ 0 := by
  have h0 : numR 2147483648 l e = (0, l, e) := numR_err h
  have h1 : eR1 l e = (0, l, e) := by unfold eR1; rw [h0]; exact numR_err h
  have h2 : eR2 l e = (0, l, e) := by unfold eR2; rw [h1]; exact numR_err h
  have h3 : eR3 l e = ([], l, e) := by unfold eR3; rw [h2]; exact textR_e h
  unfold rdE
  rw [h0, h1, h2, h3]
  rw [finE_err h]
  exact h
theorem rdE_back {l : List UInt8} (h : (rdE l 0).2.2 = 0) : okE (rdE l 0).1 = true ∧ codeP (rdE l 0).1 ++ (rdE l 0).2.1 = l := by
  obtain ⟨⟨x, y, z, d⟩, t, e, hq⟩ : ∃ a t e, rdE l 0 = (a, t, e) := ⟨_, _, _, rfl⟩
  rw [hq] at h ⊢
  dsimp only at h
  subst h
  have hb := ent_back hq ⟨x, y, z, none, d.length, 0⟩ rfl rfl rfl
  refine ⟨?_, ?_⟩
  · obtain ⟨B0, l1, e1, h0⟩ : ∃ x y z, numR 2147483648 l 0 = (x, y, z) := ⟨_, _, _, rfl⟩
    obtain ⟨B1, l2, e2, h1⟩ : ∃ x y z, eR1 l 0 = (x, y, z) := ⟨_, _, _, rfl⟩
    obtain ⟨B2, l3, e3, h2⟩ : ∃ x y z, eR2 l 0 = (x, y, z) := ⟨_, _, _, rfl⟩
    obtain ⟨tx, l4, e4, h3⟩ : ∃ x y z, eR3 l 0 = (x, y, z) := ⟨_, _, _, rfl⟩
    have hR : finE B0 B1 B2 tx l4 e4 = ((x, y, z, d), t, 0) := by rw [← hq, rdE, h0, h1, h2, h3]
    by_cases he4 : e4 = 0
    · subst he4
      cases ho : okP B0 B1 B2 tx.length
      · rw [finE_no ho] at hR; simp only [Prod.mk.injEq] at hR; exact absurd hR.2.2 (failE_ne 0)
      · rw [finE_ok ho] at hR
        simp only [Prod.mk.injEq] at hR
        obtain ⟨⟨r0, r1, r2, r3⟩, -, -⟩ := hR
        rw [← r0, ← r1, ← r2, ← r3]
        exact ho
    · rw [finE_err he4] at hR; simp only [Prod.mk.injEq] at hR; exact absurd hR.2.2 he4
  · rw [← hb]
    simp [codeP, codeE]
theorem rdEs_back (l : List UInt8) : ∀ n, (rdEs n l 0).2.2 = 0 → (rdEs n l 0).1.length = n ∧ (rdEs n l 0).1.flatMap codeP ++ (rdEs n l 0).2.1 = l
  | 0, _ => ⟨rfl, rfl⟩
  | n + 1, h => by
    have h0 : (rdEs n l 0).2.2 = 0 := by
      by_cases h1 : (rdEs n l 0).2.2 = 0
      · exact h1
      · simp only [rdEs] at h; exact absurd h (rdE_err h1)
    obtain ⟨i0, i2⟩ := rdEs_back l n h0
    simp only [rdEs] at h ⊢
    rw [h0] at h ⊢
    obtain ⟨-, r2⟩ := rdE_back h
    refine ⟨by rw [List.length_append, i0]; rfl, ?_⟩
    rw [List.flatMap_append, List.flatMap_cons, List.flatMap_nil, List.append_nil, List.append_assoc, r2]
    exact i2
theorem rdEs_err : ∀ (n : Nat) (l : List UInt8) {e : Int}, e ≠ 0 → (rdEs n l e).2.2 ≠ 0
  | 0, _, _, h => h
  | n + 1, l, _, h => rdE_err (rdEs_err n l h)
theorem take_err {q : MF × List UInt8 × Int} (h : q.2.2 ≠ 0) (f : Nat) : (takeM q f).2.2 ≠ 0 := by
  have h0 : ∀ most, (numR most q.2.1 q.2.2) = (0, q.2.1, q.2.2) := fun most => numR_err h
  have h1 : ∀ most, (textR most q.2.1 q.2.2) = ([], q.2.1, q.2.2) := fun most => textR_e h
  have h2 : (yesR q.2.1 q.2.2) = (false, q.2.1, q.2.2) := by unfold yesR; rw [if_pos h]
  unfold takeM
  rw [h0, h0, h0, h1, h1, h2]
  repeat' split
  all_goals first | exact h | (dsimp only; exact rdEs_err _ _ h)
theorem takes_err : ∀ (fs : List Nat) {q : MF × List UInt8 × Int}, q.2.2 ≠ 0 → (fs.foldl takeM q).2.2 ≠ 0
  | [], _, h => h
  | f :: fs, _, h => takes_err fs (take_err h f)
theorem yes_back {l : List UInt8} (h : (yesR l 0).2.2 = 0) : (if (yesR l 0).1 then (1 : UInt8) else 0) :: (yesR l 0).2.1 = l := by
  match l with
  | [] => simp [yesR] at h
  | x :: t =>
    have hy : yesR (x :: t) 0 = if 1 < x.toNat then (false, [], 3) else (x.toNat == 1, t, 0) := by unfold yesR; rw [if_neg (by decide)]
    rw [hy] at h ⊢
    by_cases hx : 1 < x.toNat
    · rw [if_pos hx] at h; exact absurd h (by decide)
    · rw [if_neg hx]
      dsimp only
      by_cases h1 : x.toNat = 1
      · rw [show (x.toNat == 1) = true by simpa using h1, if_pos rfl]
        rw [show x = 1 from UInt8.toNat_inj.1 (by rw [h1]; rfl)]
      · rw [show (x.toNat == 1) = false by simpa using h1, if_neg (by decide)]
        rw [show x = 0 from UInt8.toNat_inj.1 (by show x.toNat = 0; omega)]
theorem take_back (o : MF) (l : List UInt8) (f : Nat) (hf : f < 9) (h : (takeM (o, l, 0) f).2.2 = 0) : putM (takeM (o, l, 0) f).1 f ++ (takeM (o, l, 0) f).2.1 = l := by
  rcases (show f = 0 ∨ f = 1 ∨ f = 2 ∨ f = 3 ∨ f = 4 ∨ f = 5 ∨ f = 6 ∨ f = 7 ∨ f = 8 by omega) with rfl | rfl | rfl | rfl | rfl | rfl | rfl | rfl | rfl
  · simp [takeM, putM, encN] at h ⊢; exact (num_back _ l h).1
  · simp [takeM, putM, encN] at h ⊢; exact (num_back _ l h).1
  · simp [takeM, putM, encN] at h ⊢; exact (num_back _ l h).1
  · simp [takeM, putM, encN] at h ⊢; exact (num_back _ l h).1
  · simp [takeM, putM, encN] at h ⊢; exact (num_back _ l h).1
  · simp [takeM, putM] at h ⊢; exact yes_back h
  · simp [takeM, putM] at h ⊢
    have he : (numR 8 l 0).2.2 = 0 := by
      by_cases h1 : (numR 8 l 0).2.2 = 0
      · exact h1
      · exact absurd h (rdEs_err _ _ h1)
    rw [he] at h ⊢
    obtain ⟨b1, b2⟩ := rdEs_back _ _ h
    rw [b1, b2]
    exact (num_back _ l he).1
  · simp [takeM, putM] at h ⊢; exact (text_back _ l h).1
  · simp [takeM, putM] at h ⊢; exact (text_back _ l h).1
/-- what a field is does not hang on another one that is read -/
theorem put_other (q : MF × List UInt8 × Int) (f g : Nat) (hf : f < 9) (hg : g < 9) (hne : f ≠ g) : putM (takeM q g).1 f = putM q.1 f := by
  rcases (show f = 0 ∨ f = 1 ∨ f = 2 ∨ f = 3 ∨ f = 4 ∨ f = 5 ∨ f = 6 ∨ f = 7 ∨ f = 8 by omega) with rfl | rfl | rfl | rfl | rfl | rfl | rfl | rfl | rfl <;>
  rcases (show g = 0 ∨ g = 1 ∨ g = 2 ∨ g = 3 ∨ g = 4 ∨ g = 5 ∨ g = 6 ∨ g = 7 ∨ g = 8 by omega) with rfl | rfl | rfl | rfl | rfl | rfl | rfl | rfl | rfl <;>
  first | (exact absurd rfl hne) | rfl
theorem take_head (q : MF × List UInt8 × Int) (g : Nat) : (takeM q g).1.k = q.1.k ∧ (takeM q g).1.fr = q.1.fr ∧ (takeM q g).1.dt = q.1.dt ∧ (takeM q g).1.tm = q.1.tm := by
  unfold takeM
  repeat' split
  all_goals exact ⟨rfl, rfl, rfl, rfl⟩
theorem puts_other : ∀ (fs : List Nat) (q : MF × List UInt8 × Int) (f : Nat), f < 9 → (∀ g ∈ fs, g < 9) → f ∉ fs → putM (fs.foldl takeM q).1 f = putM q.1 f
  | [], _, _, _, _, _ => rfl
  | g :: fs, q, f, hf, hg, hn => by
    rw [List.foldl_cons, puts_other fs _ f hf (fun x hx => hg x (by simp [hx])) (fun hx => hn (by simp [hx])), put_other q f g hf (hg g (by simp)) (fun h => hn (by simp [h]))]
theorem takes_head : ∀ (fs : List Nat) (q : MF × List UInt8 × Int), (fs.foldl takeM q).1.k = q.1.k ∧ (fs.foldl takeM q).1.fr = q.1.fr ∧ (fs.foldl takeM q).1.dt = q.1.dt ∧ (fs.foldl takeM q).1.tm = q.1.tm
  | [], _ => ⟨rfl, rfl, rfl, rfl⟩
  | g :: fs, q => by
    obtain ⟨a, b, c, d⟩ := takes_head fs (takeM q g)
    obtain ⟨a', b', c', d'⟩ := take_head q g
    exact ⟨a.trans a', b.trans b', c.trans c', d.trans d'⟩
theorem fold_back : ∀ (fs : List Nat) (o : MF) (l : List UInt8), (∀ f ∈ fs, f < 9) → fs.Nodup → (fs.foldl takeM (o, l, 0)).2.2 = 0 → fs.flatMap (putM (fs.foldl takeM (o, l, 0)).1) ++ (fs.foldl takeM (o, l, 0)).2.1 = l
  | [], _, _, _, _, _ => rfl
  | f :: fs, o, l, hf, hd, h => by
    rw [List.foldl_cons] at h ⊢
    obtain ⟨o1, l1, e1, hq⟩ : ∃ a b c, takeM (o, l, 0) f = (a, b, c) := ⟨_, _, _, rfl⟩
    have he : e1 = 0 := by
      by_cases h1 : e1 = 0
      · exact h1
      · exact absurd h (takes_err fs (by rw [hq]; exact h1))
    subst he
    have hd' := List.nodup_cons.1 hd
    have hb := take_back o l f (hf f (by simp)) (by rw [hq])
    rw [hq] at h hb ⊢
    have ih := fold_back fs o1 l1 (fun g hg => hf g (by simp [hg])) hd'.2 h
    rw [List.flatMap_cons, puts_other fs _ f (hf f (by simp)) (fun g hg => hf g (by simp [hg])) hd'.1, List.append_assoc, ih]
    exact hb
theorem fields_nodup (k : Int) : (fieldsV k).Nodup := by
  unfold fieldsV
  repeat' split
  all_goals decide
theorem enc_readM {b : List UInt8} {m : MF} (h : readM b = (m, [], 0)) : encM m = b := by
  have hh := h
  unfold readM at h
  obtain ⟨k, l1, e1, h0⟩ : ∃ x y z, numR 11 b 0 = (x, y, z) := ⟨_, _, _, rfl⟩
  obtain ⟨fr, l2, e2, h1⟩ : ∃ x y z, hM1 b = (x, y, z) := ⟨_, _, _, rfl⟩
  obtain ⟨dt, l3, e3, h2⟩ : ∃ x y z, hM2 b = (x, y, z) := ⟨_, _, _, rfl⟩
  obtain ⟨tm, l4, e4, h3⟩ : ∃ x y z, hM3 b = (x, y, z) := ⟨_, _, _, rfl⟩
  rw [h0, h1, h2, h3] at h
  dsimp only at h
  have he4 : e4 = 0 := by
    by_cases he : e4 = 0
    · exact he
    · exact absurd (by rw [h]) (takes_err (fieldsV (k : Int)) (q := (MF.z k fr dt tm, l4, e4)) he)
  subst he4
  unfold hM3 at h3; rw [h2] at h3; dsimp only at h3
  obtain rfl : e3 = 0 := num_ok (most := 2147483648) (l := l3) (by rw [h3])
  unfold hM2 at h2; rw [h1] at h2; dsimp only at h2
  obtain rfl : e2 = 0 := num_ok (most := 6) (l := l2) (by rw [h2])
  unfold hM1 at h1; rw [h0] at h1; dsimp only at h1
  obtain rfl : e1 = 0 := num_ok (most := 6) (l := l1) (by rw [h1])
  have b0 := (num_back 11 b (by rw [h0])).1
  have b1 := (num_back 6 l1 (by rw [h1])).1
  have b2 := (num_back 6 l2 (by rw [h2])).1
  have b3 := (num_back 2147483648 l3 (by rw [h3])).1
  rw [h0] at b0; rw [h1] at b1; rw [h2] at b2; rw [h3] at b3
  dsimp only at b0 b1 b2 b3
  have hb := fold_back (fieldsV (k : Int)) (MF.z k fr dt tm) l4 (fields_lt9 _) (fields_nodup _) (by rw [h])
  obtain ⟨t1, t2, t3, t4⟩ := takes_head (fieldsV (k : Int)) (MF.z k fr dt tm, l4, 0)
  rw [h] at hb t1 t2 t3 t4
  dsimp only [MF.z] at hb t1 t2 t3 t4
  rw [List.append_nil] at hb
  unfold encM
  rw [t1, t2, t3, t4, hb, encN, encN, encN, encN, b3, b2, b1, b0]
theorem enc_decM {b : List UInt8} {m : MF} (h : decM (readM b) = (m, 0)) : m.chk = 0 ∧ encM m = b := by
  obtain ⟨o, l, e, hq⟩ : ∃ x y z, readM b = (x, y, z) := ⟨_, _, _, rfl⟩
  rw [hq] at h
  unfold decM at h
  dsimp only at h
  by_cases h1 : e = 0 ∧ o.chk ≠ 0
  · rw [if_pos h1] at h; simp only [Prod.mk.injEq] at h; exact absurd h.2 (by decide)
  · rw [if_neg h1] at h
    by_cases h2 : endV l e = 0
    · rw [if_neg (by simpa using h2)] at h
      simp only [Prod.mk.injEq] at h
      obtain ⟨rfl, -⟩ := h
      have he : e = 0 := by
        unfold endV at h2
        by_cases he : e = 0
        · exact he
        · rw [if_pos he] at h2; exact h2
      subst he
      have hl : l = [] := by
        unfold endV at h2
        rw [if_neg (by simp)] at h2
        by_cases hl : l.length = 0
        · exact List.length_eq_zero_iff.1 hl
        · rw [if_neg hl] at h2; exact absurd h2 (by decide)
      subst hl
      refine ⟨?_, enc_readM hq⟩
      by_cases hc : o.chk = 0
      · exact hc
      · exact absurd ⟨rfl, hc⟩ h1
    · rw [if_pos (by simpa using h2)] at h; simp only [Prod.mk.injEq] at h; exact absurd h.2 h2
end Go.Proofs.Ytdcioeoofngibaa.W
