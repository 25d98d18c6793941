/- LAYER 18 (spaces), plain: what Set makes may be, and changes no other one; there and back. -/
import Derived.Test.YtiopcojkdglapaaSpA
set_option linter.unusedSimpArgs false
set_option linter.unusedVariables false
namespace Go.Proofs.Ytiopcojkdglapaa.W
open Go Go.ChangeShapes Go.WideShapes Go.ChangeAt Go.RowKit
open Go.Proofs.Ytiopcojkdglapaa.P (enc dec)

theorem less_total : ∀ (x y : List UInt8), Op.bytesLess x y = false → x ≠ y → Op.bytesLess y x = true
  | [], [], _, h => absurd rfl h
  | [], _ :: _, h, _ => by simp [Op.bytesLess] at h
  | _ :: _, [], _, _ => by simp [Op.bytesLess]
  | a :: x, b :: y, h, hne => by
    simp only [Op.bytesLess, Bool.or_eq_false_iff, decide_eq_false_iff_not, Bool.and_eq_false_iff] at h
    obtain ⟨h1, h2⟩ := h
    simp only [Op.bytesLess, Bool.or_eq_true, decide_eq_true_eq, Bool.and_eq_true, beq_iff_eq]
    by_cases hab : a = b
    · right
      subst hab
      have h3 : Op.bytesLess x y = false := by
        rcases h2 with h2 | h2
        · simp at h2
        · exact h2
      exact ⟨rfl, less_total x y h3 (fun e => hne (by rw [e]))⟩
    · left
      have : ¬ a.toNat < b.toNat := h1
      have hn : a.toNat ≠ b.toNat := fun e => hab (UInt8.toNat_inj.1 e)
      show b.toNat < a.toNat
      omega
theorem lt_total {a b : ByteArray} (h : ltB a b = false) (he : eqB a b = false) : ltB b a = true := by
  unfold ltB at *
  refine less_total _ _ h (fun e => ?_)
  unfold eqB at he
  rw [e] at he
  simp at he
theorem eqB_self (a : ByteArray) : eqB a a = true := (eqB_iff a a).2 rfl
theorem chkS_name {x s : Sp} (h : x.name = s.name) : ∀ L, chkS (some x) L = chkS (some s) L
  | [] => rfl
  | y :: L => by simp only [chkS, behindV, h]
theorem behind_name {x s : Sp} (h : x.name = s.name) (p : Option Sp) : behindV p x = behindV p s := by cases p <;> simp [behindV, h]
theorem sub_chk {s : Sp} (hs : s.ok = true) : ∀ (L : List Sp) (p : Option Sp) (M : List Sp), chkS p L = true → subV L s = some M → chkS p M = true ∧ M.length = L.length
  | [], _, _, _, h => by simp [subV] at h
  | x :: L, p, M, hc, h => by
    simp only [chkS, Bool.and_eq_true] at hc
    simp only [subV] at h
    split at h
    · rename_i he
      have hn := (eqB_iff _ _).1 he
      simp only [Option.some.injEq] at h
      subst h
      refine ⟨?_, rfl⟩
      simp only [chkS, Bool.and_eq_true]
      exact ⟨hs, by rw [← behind_name hn]; exact hc.2.1, by rw [← chkS_name hn]; exact hc.2.2⟩
    · cases hq : subV L s with
      | none => rw [hq] at h; simp at h
      | some M' =>
        rw [hq] at h
        simp only [Option.map_some, Option.some.injEq] at h
        subst h
        obtain ⟨i1, i2⟩ := sub_chk hs L (some x) M' hc.2.2 hq
        refine ⟨?_, by simp [i2]⟩
        simp only [chkS, Bool.and_eq_true]
        exact ⟨hc.1, hc.2.1, i1⟩
theorem ins_chk {s : Sp} (hs : s.ok = true) : ∀ (L : List Sp) (p : Option Sp), chkS p L = true → behindV p s = true → subV L s = none → chkS p (L.take (aheadV L s.name) ++ [s] ++ L.drop (aheadV L s.name)) = true
  | [], p, _, hp, _ => by simp [aheadV, chkS, hs, hp]
  | x :: L, p, hc, hp, h => by
    simp only [chkS, Bool.and_eq_true] at hc
    simp only [subV] at h
    split at h
    · cases h
    · rename_i he
      have he2 : eqB x.name s.name = false := by simpa using he
      have h2 : subV L s = none := by cases hq : subV L s with
        | none => rfl
        | some _ => rw [hq] at h; simp at h
      simp only [aheadV]
      cases hl : ltB x.name s.name
      · simp only [Bool.false_eq_true, if_false, List.take_zero, List.drop_zero, List.nil_append, List.cons_append, chkS, Bool.and_eq_true]
        exact ⟨hs, hp, hc.1, by simp only [behindV]; exact lt_total hl he2, hc.2.2⟩
      · simp only [if_true, List.take_succ_cons, List.drop_succ_cons, List.cons_append, chkS, Bool.and_eq_true]
        exact ⟨hc.1, hc.2.1, ins_chk hs L (some x) hc.2.2 (by simp only [behindV]; exact hl) h2⟩
theorem set_check {L : List Sp} {s : Sp} (h : checkV L = true) : checkV (setV L s).1 = true := by
  have hc : chkS none L = true ∧ L.length ≤ 6 := by simpa [checkV] using h
  unfold setV
  split
  · exact h
  · rename_i ho
    have ho2 : s.ok = true := by simpa using ho
    split
    · rename_i M hM
      obtain ⟨i1, i2⟩ := sub_chk ho2 L none M hc.1 hM
      simp only [checkV, Bool.and_eq_true, decide_eq_true_eq]
      exact ⟨i1, by omega⟩
    · rename_i hM
      split
      · exact h
      · rename_i hlen
        simp only [checkV, Bool.and_eq_true, decide_eq_true_eq]
        refine ⟨ins_chk ho2 L none hc.1 rfl hM, ?_⟩
        simp only [List.length_append, List.length_take, List.length_drop, List.length_cons, List.length_nil]
        omega
theorem find_app (A B : List Sp) (n : ByteArray) : findV (A ++ B) n = if (findV A n).2 then findV A n else findV B n := by
  induction A with
  | nil => rfl
  | cons x A ih =>
    simp only [List.cons_append, findV]
    split
    · rfl
    · exact ih
theorem find_sub {s : Sp} {n : ByteArray} (hn : n ≠ s.name) : ∀ (L M : List Sp), subV L s = some M → findV M n = findV L n
  | [], _, h => by simp [subV] at h
  | x :: L, M, h => by
    simp only [subV] at h
    have hsn : eqB s.name n = false := by
      cases hq : eqB s.name n with
      | false => rfl
      | true => exact absurd ((eqB_iff _ _).1 hq).symm hn
    split at h
    · rename_i he
      simp only [Option.some.injEq] at h
      subst h
      have hx := (eqB_iff _ _).1 he
      simp [findV, hx, hsn]
    · cases hq : subV L s with
      | none => rw [hq] at h; simp at h
      | some M' =>
        rw [hq] at h
        simp only [Option.map_some, Option.some.injEq] at h
        subst h
        simp only [findV]
        rw [find_sub hn L M' hq]
theorem find_set {L : List Sp} {s : Sp} {n : ByteArray} (hn : n ≠ s.name) : findV (setV L s).1 n = findV L n := by
  have hsn : eqB s.name n = false := by
    cases hq : eqB s.name n with
    | false => rfl
    | true => exact absurd ((eqB_iff _ _).1 hq).symm hn
  unfold setV
  split
  · rfl
  · split
    · rename_i M hM
      exact find_sub hn L M hM
    · split
      · rfl
      · rw [find_app, find_app]
        have h1 : findV [s] n = (spZ, false) := by simp only [findV, hsn]; rfl
        rw [h1]
        have h2 := find_app (L.take (aheadV L s.name)) (L.drop (aheadV L s.name)) n
        rw [List.take_append_drop] at h2
        rw [h2]
        cases hq : (findV (L.take (aheadV L s.name)) n).2 <;> simp [hq]
-- ---- there and back
theorem ok_facts {s : Sp} (h : s.ok = true) : s.name.size ≤ 16 ∧ (0 ≤ s.rd ∧ s.rd ≤ 255) ∧ (0 ≤ s.wr ∧ s.wr ≤ 255) := by
  unfold Sp.ok nameV nameL inS at h
  simp only [Bool.and_eq_true, decide_eq_true_eq] at h
  have h5 : s.name.data.toList.length = s.name.size := rfl
  omega
theorem chk_oks : ∀ (L : List Sp) (p : Option Sp), chkS p L = true → ∀ s ∈ L, s.ok = true
  | [], _, _, s, hs => by cases hs
  | x :: L, p, h, s, hs => by
    simp only [chkS, Bool.and_eq_true] at h
    rcases List.mem_cons.1 hs with rfl | hs
    · exact h.1
    · exact chk_oks L (some x) h.2.2 s hs
theorem rdSp_put {s : Sp} (h : s.ok = true) (t : List UInt8) : rdSp (codeS s ++ t) 0 = (s, t, 0) := by
  obtain ⟨h1, h2, h3⟩ := ok_facts h
  obtain ⟨n, r, w⟩ := s
  dsimp only at h1 h2 h3
  have e1 : codeS ⟨n, r, w⟩ ++ t = enc n.size ++ (n.data.toList ++ (enc r.toNat ++ (enc w.toNat ++ t))) := by simp [codeS]
  have a1 := text_enc 16 n (enc r.toNat ++ (enc w.toNat ++ t)) (by omega) (by omega)
  have a2 := num_enc 255 r.toNat (enc w.toNat ++ t) (by omega) (by omega)
  have a3 := num_enc 255 w.toNat t (by omega) (by omega)
  unfold rdSp
  rw [e1, a1]
  dsimp only
  rw [a2]
  dsimp only
  rw [a3]
  dsimp only
  rw [show ((r.toNat : Nat) : Int) = r by omega, show ((w.toNat : Nat) : Int) = w by omega]
  rfl
theorem rdSps_put (L : List Sp) (hL : ∀ s ∈ L, s.ok = true) (t : List UInt8) : ∀ n, n ≤ L.length → rdSps n (L.flatMap codeS ++ t) 0 = (L.take n, (L.drop n).flatMap codeS ++ t, 0)
  | 0, _ => by simp [rdSps]
  | n + 1, hn => by
    have ih := rdSps_put L hL t n (by omega)
    have hlt : n < L.length := by omega
    have hd : L.drop n = L[n] :: L.drop (n + 1) := List.drop_eq_getElem_cons hlt
    simp only [rdSps]
    rw [ih]
    dsimp only
    rw [hd, List.flatMap_cons, List.append_assoc, rdSp_put (hL _ (List.getElem_mem hlt))]
    rw [List.take_succ_eq_append_getElem hlt]
theorem sp_read_put {L : List Sp} (h : checkV L = true) : readZ (putV L) 0 = (L, [], 0) := by
  have hc : chkS none L = true ∧ L.length ≤ 6 := by simpa [checkV] using h
  have a1 := num_enc 6 L.length (L.flatMap codeS) (by omega) (by omega)
  have a2 := rdSps_put L (chk_oks L none hc.1) [] L.length (Nat.le_refl _)
  rw [List.append_nil] at a2
  unfold readZ putV
  rw [a1]
  dsimp only
  rw [a2]
  unfold endZ
  dsimp only
  rw [if_pos rfl, List.take_length, if_pos h, List.drop_length]
  rfl
theorem codeS_len43 {s : Sp} (h : s.ok = true) : (codeS s).length ≤ 43 := by
  obtain ⟨h1, h2, h3⟩ := ok_facts h
  have e1 := P.enc_len s.name.size (by omega)
  have e2 := P.enc_len s.rd.toNat (by omega)
  have e3 := P.enc_len s.wr.toNat (by omega)
  have h5 : s.name.data.toList.length = s.name.size := rfl
  unfold codeS
  simp only [List.length_append]
  omega
theorem putV_len {L : List Sp} (h : checkV L = true) : (putV L).length ≤ 1000 := by
  have hc : chkS none L = true ∧ L.length ≤ 6 := by simpa [checkV] using h
  have h1 : ∀ M : List Sp, (∀ s ∈ M, s.ok = true) → (M.flatMap codeS).length ≤ M.length * 43 := by
    intro M
    induction M with
    | nil => intro _; simp
    | cons x M ih =>
      intro hM
      have i1 := ih (fun s hs => hM s (by simp [hs]))
      have i2 := codeS_len43 (hM x (by simp))
      rw [List.flatMap_cons, List.length_append, List.length_cons]
      omega
  have h2 := h1 L (chk_oks L none hc.1)
  have h3 := P.enc_len L.length (by omega)
  unfold putV
  rw [List.length_append]
  omega
end Go.Proofs.Ytiopcojkdglapaa.W
