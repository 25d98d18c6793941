/- LAYER 19 (ledger), plain: a ledger's bytes; what bytes are read to; there and back. -/
import Derived.Test.YtiopcojkdglapaaLdP
import Derived.Test.YtiopcojkdglapaaCavH
set_option linter.unusedSimpArgs false
set_option linter.unusedVariables false
namespace Go.Proofs.Ytiopcojkdglapaa.W
open Go Go.ChangeShapes Go.WideShapes Go.ChangeAt Go.RowKit
open Go.Proofs.Ytiopcojkdglapaa.P (enc dec)

def codeI (l : List Int) : List UInt8 := l.flatMap (fun n => enc n.toNat)
def codeH (s : Hd) : List UInt8 := codeI [s.id, s.cl, s.by', s.un, s.ti] ++ (enc s.sp.size ++ s.sp.data.toList)
def putLd (l : Ld) : List UInt8 := codeI [l.q, l.u, l.h, l.n] ++ (enc l.L.length ++ l.L.flatMap codeH)
theorem codeI_len : ∀ l : List Int, (∀ n ∈ l, n ≤ 9223372036854775807) → (codeI l).length ≤ l.length * 9
  | [], _ => by simp [codeI]
  | n :: l, h => by
    have h1 := P.enc_len n.toNat (by have := h n (by simp); omega)
    have h2 := codeI_len l (fun m hm => h m (by simp [hm]))
    simp only [codeI, List.flatMap_cons, List.length_append, List.length_cons] at h2 ⊢
    omega
theorem codeH_len {s : Hd} (h : s.fit) (hn : s.sp.size ≤ 2000000) : (codeH s).length ≤ 2000054 := by
  have h1 := codeI_len [s.id, s.cl, s.by', s.un, s.ti] (by
    intro n hm
    simp at hm
    rcases hm with rfl | rfl | rfl | rfl | rfl
    · exact h.id.2
    · exact h.cl.2
    · exact h.by'.2
    · exact h.un.2
    · exact h.ti.2)
  have h2 := P.enc_len s.sp.size (by omega)
  have h3 : s.sp.data.toList.length = s.sp.size := rfl
  unfold codeH
  simp only [List.length_append, List.length_cons, List.length_nil] at h1 ⊢
  omega
theorem codeH_all : ∀ (L : List Hd), (∀ s ∈ L, s.fit ∧ s.sp.size ≤ 2000000) → (L.flatMap codeH).length ≤ L.length * 2000054
  | [], _ => by simp
  | s :: L, h => by
    have h1 := codeH_len (h s (by simp)).1 (h s (by simp)).2
    have h2 := codeH_all L (fun x hx => h x (by simp [hx]))
    rw [List.flatMap_cons, List.length_append, List.length_cons]; omega
theorem codeH_step (L : List Hd) (k : Nat) (s : Hd) (h : L[k]? = some s) : (L.take (k + 1)).flatMap codeH = (L.take k).flatMap codeH ++ codeH s := by
  obtain ⟨h1, h2⟩ := List.getElem?_eq_some_iff.1 h
  rw [List.take_succ_eq_append_getElem h1, List.flatMap_append, h2]; simp
-- ---- what is read
/-- numbers with these limits, one behind the other -/
def nums : List Int → List UInt8 → Int → List Int × List UInt8 × Int
  | [], l, e => ([], l, e)
  | m :: ms, l, e => (((numR m l e).1 : Int) :: (nums ms (numR m l e).2.1 (numR m l e).2.2).1, (nums ms (numR m l e).2.1 (numR m l e).2.2).2)
def rdHd (l : List UInt8) (e : Int) : Hd × List UInt8 × Int :=
  let a := numR 2147483648 l e; let b := numR 7 a.2.1 a.2.2; let c := numR 1099511627776 b.2.1 b.2.2; let d := numR 1099511627776 c.2.1 c.2.2; let f := numR 1099511627776 d.2.1 d.2.2; let t := textR 16 f.2.1 f.2.2
  (⟨(a.1 : Int), (b.1 : Int), (c.1 : Int), (d.1 : Int), (f.1 : Int), str t.1⟩, t.2)
def rdHds : Nat → List UInt8 → Int → List Hd × List UInt8 × Int
  | 0, l, e => ([], l, e)
  | n + 1, l, e => ((rdHds n l e).1 ++ [(rdHd (rdHds n l e).2.1 (rdHds n l e).2.2).1], (rdHd (rdHds n l e).2.1 (rdHds n l e).2.2).2)
def ldZ : Ld := ⟨0, 0, 0, 0, []⟩
def endLd (l : Ld) (q : List UInt8 × Int) : Ld × List UInt8 × Int := if q.2 = 0 then if l.ok then (l, q) else (ldZ, [], 3) else (ldZ, q)
def readLd (l : List UInt8) (e : Int) : Ld × List UInt8 × Int :=
  let a := numR 1099511627776 l e; let b := numR 1099511627776 a.2.1 a.2.2; let c := numR 1099511627776 b.2.1 b.2.2; let d := numR 2147483648 c.2.1 c.2.2; let k := numR 8 d.2.1 d.2.2; let h := rdHds k.1 k.2.1 k.2.2
  endLd ⟨(a.1 : Int), (b.1 : Int), (c.1 : Int), (d.1 : Int), h.1⟩ h.2
theorem ld_textR_e {most : Int} {l : List UInt8} {e : Int} (h : e ≠ 0) : textR most l e = ([], l, e) := by unfold textR; rw [numR_err h]; dsimp only; rw [if_pos h]
theorem rdHd_err {l : List UInt8} {e : Int} (h : e ≠ 0) : (rdHd l e).2 = (l, e) := by
  unfold rdHd
  simp only [numR_err h, ld_textR_e h]
theorem rdHds_stuck (l : List UInt8) (e : Int) (m : Nat) (h : (rdHds m l e).2.2 ≠ 0) : ∀ k, (rdHds (m + k) l e).2 = (rdHds m l e).2
  | 0 => rfl
  | k + 1 => by
    have ih := rdHds_stuck l e m h k
    rw [show m + (k + 1) = (m + k) + 1 by omega]
    simp only [rdHds]
    rw [ih, rdHd_err h]
theorem ld_text_len (l : List UInt8) (e : Int) : (textR 16 l e).1.length ≤ 16 := by
  by_cases he : e = 0
  · subst he
    by_cases h0 : (textR 16 l 0).2.2 = 0
    · have := (text_back 16 l h0).2; omega
    · have : (textR 16 l 0).1 = [] := by
        unfold textR at h0 ⊢
        split
        · rfl
        · rename_i h1
          rw [if_neg h1] at h0
          split
          · rfl
          · rename_i h2
            rw [if_neg h2] at h0; exact absurd rfl h0
      rw [this]; simp
  · rw [ld_textR_e he]; simp
theorem rdHd_fit (l : List UInt8) (e : Int) : (rdHd l e).1.fit := by
  have hn : ∀ (m : Int) (l : List UInt8) (e : Int), SI64 ((numR m l e).1 : Int) := fun m l e => ⟨by omega, numR_lt _ _ _⟩
  refine ⟨hn _ _ _, hn _ _ _, hn _ _ _, hn _ _ _, hn _ _ _, ?_⟩
  unfold rdHd
  dsimp only
  unfold maxLen
  show (List.toArray _).size ≤ _
  have h2 := ld_text_len (numR 1099511627776 (numR 1099511627776 (numR 1099511627776 (numR 7 (numR 2147483648 l e).2.1 (numR 2147483648 l e).2.2).2.1 (numR 7 (numR 2147483648 l e).2.1 (numR 2147483648 l e).2.2).2.2).2.1 (numR 1099511627776 (numR 7 (numR 2147483648 l e).2.1 (numR 2147483648 l e).2.2).2.1 (numR 7 (numR 2147483648 l e).2.1 (numR 2147483648 l e).2.2).2.2).2.2).2.1 (numR 1099511627776 (numR 1099511627776 (numR 7 (numR 2147483648 l e).2.1 (numR 2147483648 l e).2.2).2.1 (numR 7 (numR 2147483648 l e).2.1 (numR 2147483648 l e).2.2).2.2).2.1 (numR 1099511627776 (numR 7 (numR 2147483648 l e).2.1 (numR 2147483648 l e).2.2).2.1 (numR 7 (numR 2147483648 l e).2.1 (numR 2147483648 l e).2.2).2.2).2.2).2.2).2.1 (numR 1099511627776 (numR 1099511627776 (numR 1099511627776 (numR 7 (numR 2147483648 l e).2.1 (numR 2147483648 l e).2.2).2.1 (numR 7 (numR 2147483648 l e).2.1 (numR 2147483648 l e).2.2).2.2).2.1 (numR 1099511627776 (numR 7 (numR 2147483648 l e).2.1 (numR 2147483648 l e).2.2).2.1 (numR 7 (numR 2147483648 l e).2.1 (numR 2147483648 l e).2.2).2.2).2.2).2.1 (numR 1099511627776 (numR 1099511627776 (numR 7 (numR 2147483648 l e).2.1 (numR 2147483648 l e).2.2).2.1 (numR 7 (numR 2147483648 l e).2.1 (numR 2147483648 l e).2.2).2.2).2.1 (numR 1099511627776 (numR 7 (numR 2147483648 l e).2.1 (numR 2147483648 l e).2.2).2.1 (numR 7 (numR 2147483648 l e).2.1 (numR 2147483648 l e).2.2).2.2).2.2).2.2).2.2
  rw [List.size_toArray]
  omega
theorem rdHds_fit (l : List UInt8) (e : Int) : ∀ n, ∀ s ∈ (rdHds n l e).1, s.fit
  | 0, s, h => by simp [rdHds] at h
  | n + 1, s, h => by
    simp only [rdHds, List.mem_append, List.mem_singleton] at h
    rcases h with h | rfl
    · exact rdHds_fit l e n s h
    · exact rdHd_fit _ _
theorem rdHds_len (l : List UInt8) (e : Int) : ∀ n, (rdHds n l e).1.length = n
  | 0 => rfl
  | n + 1 => by simp [rdHds, rdHds_len l e n]
theorem ld_num_le (most : Int) (hm : 0 ≤ most) (l : List UInt8) (e : Int) : ((numR most l e).1 : Int) ≤ most := by
  by_cases he : e = 0
  · subst he
    by_cases h0 : (numR most l 0).2.2 = 0
    · exact (num_back most l h0).2
    · have : (numR most l 0).1 = 0 := by
        unfold numR at h0 ⊢
        repeat' split
        all_goals first | rfl | (simp_all)
      rw [this]; simpa using hm
  · rw [numR_err he]; simpa using hm
-- ---- there and back
theorem rdHd_put {s : Hd} (h : OkH s) (hs : s.sp.size ≤ 16) (t : List UInt8) : rdHd (codeH s ++ t) 0 = (s, t, 0) := by
  have h1 := h.id; have h2 := h.cl; have h3 := h.by'; have h4 := h.un; have h5 := h.ti
  obtain ⟨i1, i2, i3, i4, i5, sp⟩ := s
  dsimp only at h1 h2 h3 h4 h5 hs
  have e1 : codeH ⟨i1, i2, i3, i4, i5, sp⟩ ++ t = enc i1.toNat ++ (enc i2.toNat ++ (enc i3.toNat ++ (enc i4.toNat ++ (enc i5.toNat ++ (enc sp.size ++ (sp.data.toList ++ t)))))) := by simp [codeH, codeI]
  have a1 := num_enc 2147483648 i1.toNat (enc i2.toNat ++ (enc i3.toNat ++ (enc i4.toNat ++ (enc i5.toNat ++ (enc sp.size ++ (sp.data.toList ++ t)))))) (by omega) (by omega)
  have a2 := num_enc 7 i2.toNat (enc i3.toNat ++ (enc i4.toNat ++ (enc i5.toNat ++ (enc sp.size ++ (sp.data.toList ++ t))))) (by omega) (by omega)
  have a3 := num_enc 1099511627776 i3.toNat (enc i4.toNat ++ (enc i5.toNat ++ (enc sp.size ++ (sp.data.toList ++ t)))) (by omega) (by omega)
  have a4 := num_enc 1099511627776 i4.toNat (enc i5.toNat ++ (enc sp.size ++ (sp.data.toList ++ t))) (by omega) (by omega)
  have a5 := num_enc 1099511627776 i5.toNat (enc sp.size ++ (sp.data.toList ++ t)) (by omega) (by omega)
  have a6 := text_enc 16 sp t (by omega) (by omega)
  unfold rdHd
  rw [e1]
  simp only [a1, a2, a3, a4, a5, a6]
  rw [show ((i1.toNat : Nat) : Int) = i1 by omega, show ((i2.toNat : Nat) : Int) = i2 by omega, show ((i3.toNat : Nat) : Int) = i3 by omega, show ((i4.toNat : Nat) : Int) = i4 by omega, show ((i5.toNat : Nat) : Int) = i5 by omega]
  rfl
theorem name16 {s : Hd} (h : OkH s) : s.sp.size ≤ 16 := by
  have := h.sp
  unfold nameV nameL at this
  simp only [Bool.and_eq_true, decide_eq_true_eq] at this
  have h5 : s.sp.data.toList.length = s.sp.size := rfl
  omega
theorem rdHds_put (L : List Hd) (hL : ∀ s ∈ L, OkH s) (t : List UInt8) : ∀ n, n ≤ L.length → rdHds n (L.flatMap codeH ++ t) 0 = (L.take n, (L.drop n).flatMap codeH ++ t, 0)
  | 0, _ => by simp [rdHds]
  | n + 1, hn => by
    have ih := rdHds_put L hL t n (by omega)
    have hlt : n < L.length := by omega
    have hd : L.drop n = L[n] :: L.drop (n + 1) := List.drop_eq_getElem_cons hlt
    simp only [rdHds]
    rw [ih]
    dsimp only
    rw [hd, List.flatMap_cons, List.append_assoc, rdHd_put (hL _ (List.getElem_mem hlt)) (name16 (hL _ (List.getElem_mem hlt)))]
    rw [List.take_succ_eq_append_getElem hlt]
theorem ld_read_put {l : Ld} (h : OkL l) : readLd (putLd l) 0 = (l, [], 0) := by
  have hok := ok_ld.2 h
  have h1 := h.q; have h2 := h.u; have h3 := h.h; have h4 := h.n; have h5 := h.len
  have hm := fun s hs => (chkH_mem l.L none h.hs s hs).1
  obtain ⟨q, u, hh, n, L⟩ := l
  dsimp only at h1 h2 h3 h4 h5 hm
  have e1 : putLd ⟨q, u, hh, n, L⟩ = enc q.toNat ++ (enc u.toNat ++ (enc hh.toNat ++ (enc n.toNat ++ (enc L.length ++ L.flatMap codeH)))) := by simp [putLd, codeI]
  have a1 := num_enc 1099511627776 q.toNat (enc u.toNat ++ (enc hh.toNat ++ (enc n.toNat ++ (enc L.length ++ L.flatMap codeH)))) (by omega) (by omega)
  have a2 := num_enc 1099511627776 u.toNat (enc hh.toNat ++ (enc n.toNat ++ (enc L.length ++ L.flatMap codeH))) (by omega) (by omega)
  have a3 := num_enc 1099511627776 hh.toNat (enc n.toNat ++ (enc L.length ++ L.flatMap codeH)) (by omega) (by omega)
  have a4 := num_enc 2147483648 n.toNat (enc L.length ++ L.flatMap codeH) (by omega) (by omega)
  have a5 := num_enc 8 L.length (L.flatMap codeH) (by omega) (by omega)
  have a6 := rdHds_put L hm [] L.length (Nat.le_refl _)
  rw [List.append_nil] at a6
  unfold readLd
  rw [e1]
  simp only [a1, a2, a3, a4, a5, a6]
  rw [show ((q.toNat : Nat) : Int) = q by omega, show ((u.toNat : Nat) : Int) = u by omega, show ((hh.toNat : Nat) : Int) = hh by omega, show ((n.toNat : Nat) : Int) = n by omega, List.take_length]
  unfold endLd
  dsimp only
  rw [if_pos rfl, if_pos hok, List.drop_length]
  rfl
theorem putLd_len {l : Ld} (h : OkL l) : (putLd l).length ≤ 1000 := by
  have h5 := h.len
  have h1 := codeI_len [l.q, l.u, l.h, l.n] (by
    have h1 := h.q; have h2 := h.u; have h3 := h.h; have h4 := h.n
    intro n hm; simp at hm; omega)
  have h2 : ∀ M : List Hd, (∀ s ∈ M, OkH s) → (M.flatMap codeH).length ≤ M.length * 70 := by
    intro M
    induction M with
    | nil => intro _; simp
    | cons x M ih =>
      intro hM
      have i1 := ih (fun s hs => hM s (by simp [hs]))
      have hx := hM x (by simp)
      have i2 := codeI_len [x.id, x.cl, x.by', x.un, x.ti] (by
        have h1 := hx.id; have h2 := hx.cl; have h3 := hx.by'; have h4 := hx.un; have h5 := hx.ti
        intro n hm; simp at hm; omega)
      have i3 := P.enc_len x.sp.size (by have := name16 hx; omega)
      have i4 : x.sp.data.toList.length = x.sp.size := rfl
      have i5 := name16 hx
      rw [List.flatMap_cons, List.length_append, List.length_cons]
      have hx2 : codeH x = codeI [x.id, x.cl, x.by', x.un, x.ti] ++ (enc x.sp.size ++ x.sp.data.toList) := rfl
      rw [hx2]
      simp only [List.length_append, List.length_cons, List.length_nil] at i2 ⊢
      omega
  have h3 := h2 l.L (fun s hs => (chkH_mem l.L none h.hs s hs).1)
  have h4 := P.enc_len l.L.length (by omega)
  unfold putLd
  simp only [List.length_append, List.length_cons, List.length_nil] at h1 ⊢
  omega
end Go.Proofs.Ytiopcojkdglapaa.W
