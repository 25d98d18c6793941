/- LAYER 23 (command): plain: what was put reads back, and what was read has just these bytes. -/
import Derived.Test.YtmacjpgeamlmhaaCmG
set_option linter.unusedSimpArgs false
set_option linter.unusedVariables false
namespace Go.Proofs.Ytmacjpgeamlmhaa.W
open Go Go.ChangeShapes Go.WideShapes Go.ChangeAt Go.RowKit
open Go.Proofs.Ytmacjpgeamlmhaa.P (enc dec)
open Go.Proofs.Ytmacjpgeamlmhaa.S

-- ---- there
theorem rdVL_put (L : List Cv) (hL : ∀ c ∈ L, c.ok = true ∧ c.fit) (h8 : L.length ≤ 8) (t : List UInt8) : rdVL (codeL L ++ t) 0 = (L, t, 0) := by
  have a1 := num_enc 8 L.length (L.flatMap putA ++ t) (by omega) (by omega)
  unfold rdVL codeL
  rw [List.append_assoc]
  simp only [a1, rdN_all L hL t]
  unfold lsLm
  rw [if_pos rfl]
theorem num_put (most x : Int) (t : List UInt8) (h0 : 0 ≤ x) (h1 : x ≤ most) (hm : most < 9223372036854775808) : numR most (enc x.toNat ++ t) 0 = (x.toNat, t, 0) := num_enc most x.toNat t (by omega) (by omega)
theorem dec_code (m : Cm) (h : m.ok = true) (hV : ∀ c ∈ m.V, c.fit) : decCm (codeCm m) = (m, 0) := by
  have OK := okCm h
  obtain ⟨cl, sq, kd, id, ep, V, sp, nm, nu, by1, ti, PL⟩ := m
  obtain ⟨h1, h2, h3, h4, h5, h6, h7, h8, h9, h10, h11, h12, h13, h14⟩ := OK
  dsimp only at h1 h2 h3 h4 h5 h6 h7 h8 h9 h10 h11 h12 h13 h14 hV
  have s1 := txt_16 h11
  have s2 := txt_16 h12
  have e0 : codeCm ⟨cl, sq, kd, id, ep, V, sp, nm, nu, by1, ti, PL⟩ = enc cl.toNat ++ (enc sq.toNat ++ (enc kd.toNat ++ (enc id.toNat ++ (enc ep.toNat ++ (codeL V ++ (enc sp.size ++ (sp.data.toList ++ (enc nm.size ++ (nm.data.toList ++ (enc nu.toNat ++ (enc by1.toNat ++ (enc ti.toNat ++ (enc PL.length ++ (PL.flatMap codeP ++ [])))))))))))))) := by
    unfold codeCm codeN textC; simp
  have hr : rdCm (codeCm ⟨cl, sq, kd, id, ep, V, sp, nm, nu, by1, ti, PL⟩) 0 = (⟨cl, sq, kd, id, ep, V, sp, nm, nu, by1, ti, PL⟩, [], 0) := by
    rw [e0]
    unfold rdCm
    rw [num_put 7 cl _ h1.1 h1.2 (by decide)]
    dsimp only
    rw [num_put 2147483648 sq _ (by omega) h3.2 (by decide)]
    dsimp only
    rw [num_put 14 kd _ (by omega) h2.2 (by decide)]
    dsimp only
    rw [num_put 2147483648 id _ (by omega) h4.2 (by decide)]
    dsimp only
    rw [num_put 2147483648 ep _ h5.1 h5.2 (by decide)]
    dsimp only
    rw [rdVL_put V (fun c hc => ⟨h10 c hc, hV c hc⟩) h9]
    dsimp only
    rw [text_enc 16 sp _ (by omega) (by omega)]
    dsimp only
    rw [text_enc 16 nm _ (by omega) (by omega)]
    dsimp only
    rw [num_put 2147483648 nu _ h6.1 h6.2 (by decide)]
    dsimp only
    rw [num_put 1099511627776 by1 _ h7.1 h7.2 (by decide)]
    dsimp only
    rw [num_put 1099511627776 ti _ h8.1 h8.2 (by decide)]
    dsimp only
    rw [rdPL_put PL h14 h13 []]
    dsimp only
    rw [str_dataM, str_dataM, Int.toNat_of_nonneg h1.1, Int.toNat_of_nonneg (by omega : 0 ≤ sq), Int.toNat_of_nonneg (by omega : 0 ≤ kd), Int.toNat_of_nonneg (by omega : 0 ≤ id), Int.toNat_of_nonneg h5.1, Int.toNat_of_nonneg h6.1, Int.toNat_of_nonneg h7.1, Int.toNat_of_nonneg h8.1]
  unfold decCm finCm finB
  rw [hr]
  dsimp only
  rw [if_pos h, if_pos (by rfl)]
-- ---- back
theorem num_zero {most : Int} {l : List UInt8} {e : Int} (h : (numR most l e).2.2 = 0) : e = 0 := by
  by_cases he : e = 0
  · exact he
  · rw [numR_err he] at h; exact absurd h he
theorem text_zero {most : Int} {l : List UInt8} {e : Int} (h : (textR most l e).2.2 = 0) : e = 0 := by
  by_cases he : e = 0
  · exact he
  · rw [textR_err he] at h; exact absurd h he
theorem rdN_zero {l : List UInt8} {e : Int} (n : Nat) (h : (rdN n l e).2.2 = 0) : e = 0 := by
  by_cases he : e = 0
  · exact he
  · have := rdN_stuck l e 0 he n
    rw [Nat.zero_add] at this
    rw [this] at h; exact absurd h he
theorem rdVL_zero {l : List UInt8} {e : Int} (h : (rdVL l e).2.2 = 0) : e = 0 := num_zero (rdN_zero _ h)
theorem rdVL_back (l : List UInt8) (h : (rdVL l 0).2.2 = 0) : (∀ c ∈ (rdVL l 0).1, c.ok = true) ∧ codeL (rdVL l 0).1 ++ (rdVL l 0).2.1 = l := by
  unfold rdVL at h ⊢
  dsimp only at h ⊢
  have h0 := rdN_zero _ h
  have hb := (num_back 8 l h0).1
  rw [h0] at h ⊢
  obtain ⟨b1, b2⟩ := rdN_back _ _ h
  unfold lsLm
  rw [if_pos h]
  refine ⟨b1, ?_⟩
  unfold codeL
  rw [rdN_len, List.append_assoc, b2]
  exact hb
theorem rdPc_zero {l : List UInt8} {e : Int} (h : (rdPc l e).2.2 = 0) : e = 0 := by
  unfold rdPc at h
  dsimp only at h
  split at h
  · exact text_zero (num_zero h)
  · unfold failE at h
    split at h
    · exact text_zero (num_zero h)
    · cases h
theorem rdPc_back (l : List UInt8) (h : (rdPc l 0).2.2 = 0) : pokM (rdPc l 0).1 = true ∧ codeP (rdPc l 0).1 ++ (rdPc l 0).2.1 = l := by
  unfold rdPc at h ⊢
  dsimp only at h ⊢
  split at h
  · rename_i hok
    rw [if_pos hok]
    refine ⟨hok, ?_⟩
    have h1 := num_zero h
    have t1 := (text_back 32 l h1).1
    rw [h1] at h ⊢
    have n1 := (num_back 256 _ h).1
    unfold codeP
    dsimp only
    rw [str_sizeM, Int.toNat_natCast, List.append_assoc, List.append_assoc, n1]
    exact t1
  · rename_i hok
    unfold failE at h
    split at h
    · rename_i h2
      rcases h2 with h2 | h2
      · exact absurd h h2
      · cases h2
    · cases h
theorem rdPcs_zero {l : List UInt8} {e : Int} : ∀ n, (rdPcs n l e).2.2 = 0 → e = 0
  | 0, h => h
  | n + 1, h => rdPcs_zero n (rdPc_zero (by simpa only [rdPcs] using h))
theorem rdPcs_back (l : List UInt8) : ∀ n, (rdPcs n l 0).2.2 = 0 → (rdPcs n l 0).1.all pokM = true ∧ (rdPcs n l 0).1.flatMap codeP ++ (rdPcs n l 0).2.1 = l
  | 0, _ => ⟨rfl, rfl⟩
  | n + 1, h => by
    simp only [rdPcs] at h ⊢
    have h0 := rdPc_zero h
    obtain ⟨i1, i2⟩ := rdPcs_back l n h0
    rw [h0] at h ⊢
    obtain ⟨r1, r2⟩ := rdPc_back _ h
    refine ⟨by rw [List.all_append, i1]; simp [r1], ?_⟩
    rw [List.flatMap_append, List.flatMap_cons, List.flatMap_nil, List.append_nil, List.append_assoc, r2]
    exact i2
theorem rdPL_zero {l : List UInt8} {e : Int} (h : (rdPL l e).2.2 = 0) : e = 0 := num_zero (rdPcs_zero _ h)
theorem rdPL_back (l : List UInt8) (h : (rdPL l 0).2.2 = 0) : (rdPL l 0).1.all pokM = true ∧ enc (rdPL l 0).1.length ++ (rdPL l 0).1.flatMap codeP ++ (rdPL l 0).2.1 = l := by
  unfold rdPL at h ⊢
  dsimp only at h ⊢
  have h0 := rdPcs_zero _ h
  have hb := (num_back 8 l h0).1
  rw [h0] at h ⊢
  obtain ⟨b1, b2⟩ := rdPcs_back _ _ h
  unfold lsLm
  rw [if_pos h]
  refine ⟨b1, ?_⟩
  rw [rdPcs_len, List.append_assoc, b2]
  exact hb
theorem rdCm_back (l : List UInt8) (h : (rdCm l 0).2.2 = 0) : codeCm (rdCm l 0).1 ++ (rdCm l 0).2.1 = l := by
  unfold rdCm at h ⊢
  dsimp only at h ⊢
  have z10 := rdPL_zero h
  have z9 := num_zero z10
  have z8 := num_zero z9
  have z7 := num_zero z8
  have z6 := text_zero z7
  have z5 := text_zero z6
  have z4 := rdVL_zero z5
  have z3 := num_zero z4
  have z2 := num_zero z3
  have z1 := num_zero z2
  have z0 := num_zero z1
  have b0 := (num_back 7 l z0).1
  generalize numR 7 l 0 = a0 at *
  obtain ⟨x0, l0, e0⟩ := a0
  dsimp only at *
  subst z0
  have b1 := (num_back 2147483648 l0 z1).1
  generalize numR 2147483648 l0 0 = a1 at *
  obtain ⟨x1, l1, e1⟩ := a1
  dsimp only at *
  subst z1
  have b2 := (num_back 14 l1 z2).1
  generalize numR 14 l1 0 = a2 at *
  obtain ⟨x2, l2, e2⟩ := a2
  dsimp only at *
  subst z2
  have b3 := (num_back 2147483648 l2 z3).1
  generalize numR 2147483648 l2 0 = a3 at *
  obtain ⟨x3, l3, e3⟩ := a3
  dsimp only at *
  subst z3
  have b4 := (num_back 2147483648 l3 z4).1
  generalize numR 2147483648 l3 0 = a4 at *
  obtain ⟨x4, l4, e4⟩ := a4
  dsimp only at *
  subst z4
  have b5 := (rdVL_back l4 z5).2
  generalize rdVL l4 0 = a5 at *
  obtain ⟨x5, l5, e5⟩ := a5
  dsimp only at *
  subst z5
  have b6 := (text_back 16 l5 z6).1
  generalize textR 16 l5 0 = a6 at *
  obtain ⟨x6, l6, e6⟩ := a6
  dsimp only at *
  subst z6
  have b7 := (text_back 16 l6 z7).1
  generalize textR 16 l6 0 = a7 at *
  obtain ⟨x7, l7, e7⟩ := a7
  dsimp only at *
  subst z7
  have b8 := (num_back 2147483648 l7 z8).1
  generalize numR 2147483648 l7 0 = a8 at *
  obtain ⟨x8, l8, e8⟩ := a8
  dsimp only at *
  subst z8
  have b9 := (num_back 1099511627776 l8 z9).1
  generalize numR 1099511627776 l8 0 = a9 at *
  obtain ⟨x9, l9, e9⟩ := a9
  dsimp only at *
  subst z9
  have b10 := (num_back 1099511627776 l9 z10).1
  generalize numR 1099511627776 l9 0 = a10 at *
  obtain ⟨x10, l10, e10⟩ := a10
  dsimp only at *
  subst z10
  have b11 := (rdPL_back l10 h).2
  generalize rdPL l10 0 = a11 at *
  obtain ⟨x11, l11, e11⟩ := a11
  dsimp only at *
  unfold codeCm codeN textC
  simp only [List.flatMap_cons, List.flatMap_nil, List.append_nil, Int.toNat_natCast, str_sizeM]
  simp only [List.append_assoc] at b11 ⊢
  rw [b11, b10, b9, b8]
  show enc x0 ++ (enc x1 ++ (enc x2 ++ (enc x3 ++ (enc x4 ++ (codeL x5 ++ (enc x6.length ++ (x6 ++ (enc x7.length ++ (x7 ++ l7))))))))) = l
  rw [b7, b6, b5, b4, b3, b2, b1, b0]
theorem code_dec (b : List UInt8) (h : (decCm b).2 = 0) : (decCm b).1.ok = true ∧ codeCm (decCm b).1 = b := by
  unfold decCm finCm finB at h ⊢
  by_cases hok : (rdCm b 0).1.ok = true
  · rw [if_pos hok] at h ⊢
    by_cases he : endV (rdCm b 0).2.1 (rdCm b 0).2.2 = 0
    · rw [if_pos he]
      obtain ⟨h1, h2⟩ := endV_zero he
      have := rdCm_back b h1
      rw [h2, List.append_nil] at this
      exact ⟨hok, this⟩
    · rw [if_neg he] at h
      exact absurd h he
  · rw [if_neg hok] at h
    have hf := fail_end (rdCm b 0).2.1 (rdCm b 0).2.2
    rw [if_neg hf] at h
    exact absurd h hf
end Go.Proofs.Ytmacjpgeamlmhaa.W
