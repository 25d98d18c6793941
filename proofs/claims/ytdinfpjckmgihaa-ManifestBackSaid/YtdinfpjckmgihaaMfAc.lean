/- LAYER 20 (manifest): plain: what was put reads back; added and removed again; a snapshot as it comes in. -/
import Derived.Test.YtdinfpjckmgihaaMfAb
import Derived.Test.YtdinfpjckmgihaaMfFw
import Derived.Test.YtdinfpjckmgihaaMfU
set_option linter.unusedSimpArgs false
set_option linter.unusedVariables false
namespace Go.Proofs.Ytdinfpjckmgihaa.W
open Go Go.ChangeShapes Go.WideShapes Go.ChangeAt Go.RowKit
open Go.Proofs.Ytdinfpjckmgihaa.P (enc dec)
open Go.Proofs.Ytdinfpjckmgihaa.S

-- ---- there and back
theorem str_dataM (s : ByteArray) : str s.data.toList = s := by
  obtain ⟨⟨l⟩⟩ := s
  rfl
theorem pokM_iff {p : Pc} : pokM p = true ↔ p.sum.size = 32 ∧ 1 ≤ p.size ∧ p.size ≤ 256 := by
  unfold pokM
  rw [Bool.and_eq_true, decide_eq_true_eq, in64_iff]
theorem rdPc_put {p : Pc} (h : pokM p = true) (t : List UInt8) : rdPc (codeP p ++ t) 0 = (p, t, 0) := by
  have h0 := h
  obtain ⟨h1, h2, h3⟩ := pokM_iff.1 h
  have a1 := text_enc 32 p.sum (enc p.size.toNat ++ t) (by omega) (by omega)
  have a2 := num_enc 256 p.size.toNat t (by omega) (by omega)
  have e1 : codeP p ++ t = enc p.sum.size ++ (p.sum.data.toList ++ (enc p.size.toNat ++ t)) := by unfold codeP; simp
  unfold rdPc
  rw [e1]
  simp only [a1, a2]
  rw [str_dataM, show ((p.size.toNat : Nat) : Int) = p.size by omega, if_pos h0]
theorem rdPcs_put (L : List Pc) (hL : L.all pokM = true) (t : List UInt8) : ∀ n, n ≤ L.length → rdPcs n (L.flatMap codeP ++ t) 0 = (L.take n, (L.drop n).flatMap codeP ++ t, 0)
  | 0, _ => by simp [rdPcs]
  | n + 1, hn => by
    have ih := rdPcs_put L hL t n (by omega)
    have hlt : n < L.length := by omega
    have hd : L.drop n = L[n] :: L.drop (n + 1) := List.drop_eq_getElem_cons hlt
    simp only [rdPcs]
    rw [ih]
    dsimp only
    rw [hd, List.flatMap_cons, List.append_assoc, rdPc_put (List.all_eq_true.1 hL _ (List.getElem_mem hlt))]
    rw [List.take_succ_eq_append_getElem hlt]
theorem rdPL_put (L : List Pc) (hL : L.all pokM = true) (h8 : L.length ≤ 8) (t : List UInt8) : rdPL (enc L.length ++ (L.flatMap codeP ++ t)) 0 = (L, t, 0) := by
  have a1 := num_enc 8 L.length (L.flatMap codeP ++ t) (by omega) (by omega)
  have a2 := rdPcs_put L hL t L.length (Nat.le_refl _)
  rw [List.take_of_length_le (Nat.le_refl _), List.drop_of_length_le (Nat.le_refl _)] at a2
  simp only [List.flatMap_nil, List.nil_append] at a2
  unfold rdPL
  simp only [a1, a2]
  unfold lsLm
  rw [if_pos rfl]
theorem nameV_16 {s : ByteArray} (h : nameV s = true) : s.size ≤ 16 := by
  unfold nameV nameL at h
  simp only [Bool.and_eq_true, decide_eq_true_eq] at h
  have h5 : s.data.toList.length = s.size := Array.length_toList
  omega
structure OkS (s : Sn) : Prop where
  len : s.P.length ≤ 8
  all : s.P.all pokM = true
  by' : 0 ≤ s.by' ∧ s.by' ≤ 2048
  sp : s.sp.size ≤ 16
  nm : s.nm.size ≤ 16
  ti : 0 ≤ s.ti ∧ s.ti ≤ 1099511627776
  ke : 0 ≤ s.ke ∧ s.ke ≤ 1099511627776
theorem okM_s {s : Sn} (h : okM s = true) : OkS s := by
  unfold okM at h
  simp only [Bool.and_eq_true, decide_eq_true_eq, in64_iff] at h
  obtain ⟨h1, h2, h3, h4, h5, h6⟩ := h
  unfold bytesM at h1 h2
  split at h1
  · rename_i hc
    rw [if_pos hc] at h2
    dsimp only at h2
    have := sumM_lim s.P hc.2
    exact ⟨hc.1, hc.2, by omega, nameV_16 h3, nameV_16 h4, h5, h6⟩
  · cases h1
theorem rdSn_put {s : Sn} (h : OkS s) (t : List UInt8) : rdSn (codeS s ++ t) 0 = (s, t, 0) := by
  obtain ⟨sp, nm, b, ti, ke, L⟩ := s
  obtain ⟨h1, h2, h3, h4, h5, h6, h7⟩ := h
  dsimp only at h1 h2 h3 h4 h5 h6 h7
  have e1 : codeS ⟨sp, nm, b, ti, ke, L⟩ ++ t = enc sp.size ++ (sp.data.toList ++ (enc nm.size ++ (nm.data.toList ++ (enc b.toNat ++ (enc ti.toNat ++ (enc ke.toNat ++ (enc L.length ++ (L.flatMap codeP ++ t)))))))) := by unfold codeS; simp
  have a1 := text_enc 16 sp (enc nm.size ++ (nm.data.toList ++ (enc b.toNat ++ (enc ti.toNat ++ (enc ke.toNat ++ (enc L.length ++ (L.flatMap codeP ++ t))))))) (by omega) (by omega)
  have a2 := text_enc 16 nm (enc b.toNat ++ (enc ti.toNat ++ (enc ke.toNat ++ (enc L.length ++ (L.flatMap codeP ++ t))))) (by omega) (by omega)
  have a3 := num_enc 1099511627776 b.toNat (enc ti.toNat ++ (enc ke.toNat ++ (enc L.length ++ (L.flatMap codeP ++ t)))) (by omega) (by omega)
  have a4 := num_enc 1099511627776 ti.toNat (enc ke.toNat ++ (enc L.length ++ (L.flatMap codeP ++ t))) (by omega) (by omega)
  have a5 := num_enc 1099511627776 ke.toNat (enc L.length ++ (L.flatMap codeP ++ t)) (by omega) (by omega)
  have a6 := rdPL_put L h2 h1 t
  unfold rdSn
  rw [e1]
  simp only [a1, a2, a3, a4, a5, a6]
  rw [str_dataM, str_dataM, show ((b.toNat : Nat) : Int) = b by omega, show ((ti.toNat : Nat) : Int) = ti by omega, show ((ke.toNat : Nat) : Int) = ke by omega]
theorem rdSns_put (L : List Sn) (hL : ∀ s ∈ L, OkS s) (t : List UInt8) : ∀ n, n ≤ L.length → rdSns n (L.flatMap codeS ++ t) 0 = (L.take n, (L.drop n).flatMap codeS ++ t, 0)
  | 0, _ => by simp [rdSns]
  | n + 1, hn => by
    have ih := rdSns_put L hL t n (by omega)
    have hlt : n < L.length := by omega
    have hd : L.drop n = L[n] :: L.drop (n + 1) := List.drop_eq_getElem_cons hlt
    simp only [rdSns]
    rw [ih]
    dsimp only
    rw [hd, List.flatMap_cons, List.append_assoc, rdSn_put (hL _ (List.getElem_mem hlt))]
    rw [List.take_succ_eq_append_getElem hlt]
theorem checkM_ok {L : List Sn} (h : checkM L = true) : L.length ≤ 12 ∧ ∀ s ∈ L, OkS s := by
  unfold checkM at h
  rw [chkM_split] at h
  simp only [Bool.and_eq_true, decide_eq_true_eq] at h
  exact ⟨h.1, fun s hs => okM_s (List.all_eq_true.1 h.2.2 s hs)⟩
theorem readM_put (L : List Sn) (h : checkM L = true) (t : List UInt8) : readM (enc L.length ++ (L.flatMap codeS ++ t)) 0 = (L, t, 0) := by
  obtain ⟨h1, h2⟩ := checkM_ok h
  have a1 := num_enc 12 L.length (L.flatMap codeS ++ t) (by omega) (by omega)
  have a2 := rdSns_put L h2 t L.length (Nat.le_refl _)
  rw [List.take_of_length_le (Nat.le_refl _), List.drop_of_length_le (Nat.le_refl _)] at a2
  simp only [List.flatMap_nil, List.nil_append] at a2
  unfold readM rdSL
  simp only [a1, a2]
  unfold lsLm endM
  rw [if_pos rfl]
  dsimp only
  rw [if_pos rfl, if_pos h]
-- ---- added, and removed again
theorem callM_self (s : Sn) : callM s.sp s.nm s = true := by
  unfold callM
  rw [(eqM_iff s.sp s.sp).2 rfl, (eqM_iff s.nm s.nm).2 rfl]; rfl
theorem below_tot {s x : Sn} (h : belowM s x = false) (hc : callM s.sp s.nm x = false) : belowM x s = true := by
  unfold belowM at h ⊢
  unfold callM at hc
  rw [Bool.or_eq_false_iff] at h
  rw [Bool.or_eq_true, Bool.and_eq_true]
  obtain ⟨h1, h2⟩ := h
  by_cases he : x.sp = s.sp
  · right
    have e1 : eqM x.sp s.sp = true := (eqM_iff _ _).2 he
    have e2 : eqM s.sp x.sp = true := (eqM_iff _ _).2 he.symm
    rw [e1, Bool.true_and] at hc
    rw [e2, Bool.true_and] at h2
    exact ⟨e1, ltM_total h2 (fun e => eqM_ne.1 hc e.symm)⟩
  · exact .inl (ltM_total h1 (fun e => he e.symm))
theorem hasM_cons {sp nm : ByteArray} {x : Sn} {L : List Sn} (h : hasM sp nm (x :: L) = false) : callM sp nm x = false ∧ hasM sp nm L = false := by
  unfold hasM at h ⊢
  rw [List.any_cons, Bool.or_eq_false_iff] at h
  exact h
theorem chk_ins (s : Sn) (hs : okM s = true) : ∀ (L : List Sn) (p : Option Sn), chkM p L = true → behM p s = true → hasM s.sp s.nm L = false → chkM p (L.take (aheadM s L) ++ [s] ++ L.drop (aheadM s L)) = true
  | [], p, _, hb, _ => by simp [aheadM, chkM, hs, hb]
  | x :: L, p, h, hb, hh => by
    obtain ⟨hx, hL⟩ := hasM_cons hh
    simp only [chkM, Bool.and_eq_true] at h
    obtain ⟨h1, h2, h3⟩ := h
    cases hbx : belowM s x with
    | true =>
      have e : aheadM s (x :: L) = 0 := by simp [aheadM, hbx]
      rw [e]
      simp only [List.take_zero, List.nil_append, List.drop_zero, List.cons_append, chkM, Bool.and_eq_true]
      exact ⟨hs, hb, h1, hbx, h3⟩
    | false =>
      have e : aheadM s (x :: L) = aheadM s L + 1 := by simp [aheadM, hbx]
      have ih := chk_ins s hs L (some x) h3 (show belowM x s = true from below_tot hbx hx) hL
      rw [e]
      simp only [List.take_succ_cons, List.drop_succ_cons, List.cons_append, chkM, Bool.and_eq_true]
      exact ⟨h1, h2, ih⟩
theorem addM_check {L : List Sn} (s : Sn) (h : checkM L = true) : checkM (addM L s).1 = true := by
  unfold addM
  split
  · exact h
  · rename_i h1
    split
    · exact h
    · rename_i h2
      split
      · exact h
      · rename_i h3
        dsimp only
        unfold checkM at h ⊢
        simp only [Bool.and_eq_true, decide_eq_true_eq] at h ⊢
        have hle := ahead_le s L
        refine ⟨?_, chk_ins s (by simpa using h1) L none h.2 rfl (by simpa using h2)⟩
        simp only [List.length_append, List.length_take, List.length_drop, List.length_cons, List.length_nil]
        omega
theorem addM_err {L : List Sn} {s : Sn} (h : (addM L s).2 ≠ 0) : (addM L s).1 = L := by
  unfold addM at h ⊢
  split
  · rfl
  · rename_i h1
    rw [if_neg h1] at h
    split
    · rfl
    · rename_i h2
      rw [if_neg h2] at h
      split
      · rfl
      · rename_i h3
        rw [if_neg h3] at h
        exact absurd rfl h
theorem at_app (sp nm : ByteArray) (s : Sn) (B : List Sn) (hs : callM sp nm s = true) : ∀ A : List Sn, hasM sp nm A = false → atM sp nm (A ++ s :: B) = A.length
  | [], _ => by simp [atM, hs]
  | x :: A, h => by
    obtain ⟨hx, hA⟩ := hasM_cons h
    have ih := at_app sp nm s B hs A hA
    simp [atM, hx, ih]
theorem addM_back {L : List Sn} {s : Sn} (h : (addM L s).2 = 0) (now : Int) : removeM (addM L s).1 s.sp s.nm now = if now < s.ke then ((addM L s).1, 0, 22) else (L, s.by', 0) := by
  have h2 : hasM s.sp s.nm L = false ∧ (addM L s).1 = L.take (aheadM s L) ++ s :: L.drop (aheadM s L) := by
    unfold addM at h ⊢
    split
    · rename_i h1; rw [if_pos h1] at h; cases h
    · rename_i h1
      rw [if_neg h1] at h
      split
      · rename_i h2; rw [if_pos h2] at h; cases h
      · rename_i h2
        rw [if_neg h2] at h
        split
        · rename_i h3; rw [if_pos h3] at h; cases h
        · exact ⟨by simpa using h2, by simp⟩
  obtain ⟨hh, he⟩ := h2
  rw [he]
  have hle := ahead_le s L
  obtain ⟨A, hA⟩ : ∃ A, L.take (aheadM s L) = A := ⟨_, rfl⟩
  obtain ⟨B, hB⟩ : ∃ B, L.drop (aheadM s L) = B := ⟨_, rfl⟩
  have hAB : A ++ B = L := by rw [← hA, ← hB]; exact List.take_append_drop _ _
  have hhA : hasM s.sp s.nm A = false := by
    rw [← hAB] at hh
    unfold hasM at hh ⊢
    rw [List.any_append, Bool.or_eq_false_iff] at hh
    exact hh.1
  rw [hA, hB]
  have h1 : hasM s.sp s.nm (A ++ s :: B) = true := by
    unfold hasM
    rw [List.any_append, List.any_cons, callM_self s]; simp
  have h3 : atM s.sp s.nm (A ++ s :: B) = A.length := at_app _ _ s B (callM_self s) A hhA
  unfold removeM keepM bytM
  rw [h1, h3]
  have h4 : (A ++ s :: B).getD A.length snZ = s := by simp [List.getD]
  rw [h4, if_neg (by simp)]
  split
  · rfl
  · rw [List.take_left' rfl]
    have h5 : (A ++ s :: B).drop (A.length + 1) = B := by simp
    rw [h5, hAB]
theorem addM_few {L : List Sn} {s : Sn} (h : FewP L) (hs : s.P.length ≤ 1000) : FewP (addM L s).1 := by
  unfold addM
  split
  · exact h
  · split
    · exact h
    · split
      · exact h
      · intro x hx
        dsimp only at hx
        rcases List.mem_append.1 hx with hx | hx
        · rcases List.mem_append.1 hx with hx | hx
          · exact h x (List.mem_of_mem_take hx)
          · rw [List.mem_singleton.1 hx]; exact hs
        · exact h x (List.mem_of_mem_drop hx)
set_option maxRecDepth 100000 in
/-- Put of snapshots that may be -/
theorem pputM (a : Option Addr) (n c : Nat) (L : List Sn) (w : World) (h : SnL w a n c L) (hL : checkM L = true) :
    Calls Try.prog 17 #[.slice none 0 0, .slice a n c] w fun x w' => ∃ y m d, x = .returned (.slice y m d) ∧ Rd w' y m d (enc n ++ L.flatMap codeS) ∧ m ≤ 30000000000 ∧ Below w.heap.size w w' := by
  obtain ⟨h1, h2⟩ := checkM_ok hL
  obtain ⟨X, hX, hXL⟩ := h
  have hln : L.length = n := by rw [← hXL, List.length_map, hX.hlen]
  have hsh : ∀ x ∈ X, x.short := fun x hx => by
    have hm : x.s ∈ L := by rw [← hXL]; exact List.mem_map_of_mem hx
    have ok := h2 _ hm
    exact ⟨by have := ok.sp; omega, by have := ok.nm; omega, by have := ok.len; omega, fun p hp => by have := (pokM_iff.1 (List.all_eq_true.1 ok.all p hp)).1; omega⟩
  have he : X.flatMap codeX = L.flatMap codeS := by rw [← hXL, List.flatMap_map]; rfl
  have hp := pputsn none 0 0 [] a n c X w rd_nil_mf (by omega) hX (by omega) hsh
  rw [he, List.nil_append] at hp
  exact hp
section
variable {H : Type} {enc : TypeId × Value → H} {w : World} {base : Nat} {held : Bool}
set_option maxRecDepth 100000 in
theorem sn_open {base' : Nat} {v : Value} {d : DataW H} {pl : List MemPlace} (hv : Value.okWide Try.prog w .any base' 25 v) (h : DataW.Trod enc Try.prog w base (fun _ => true) held 25 v d pl) : ∃ y : SnX, v = .agg y.cells.toArray ∧ y.fit w := by
  obtain ⟨fuel, hf⟩ := h
  obtain ⟨cs, rfl, -⟩ := okWide_struct Try.underlying25 hv
  obtain ⟨y, e, hy⟩ := sn_cells hf
  simp only [Value.cells] at e
  exact ⟨y, by congr 1; apply Array.ext'; rw [e], hy⟩
end
end Go.Proofs.Ytdinfpjckmgihaa.W
