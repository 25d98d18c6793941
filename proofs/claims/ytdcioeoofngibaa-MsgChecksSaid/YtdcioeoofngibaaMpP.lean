/- LAYER 16 (msg), plain: field by field, may a message be; its bytes; reading. -/
import Derived.Test.YtdcioeoofngibaaMpA
set_option linter.unusedSimpArgs false
set_option linter.unusedVariables false
namespace Go.Proofs.Ytdcioeoofngibaa.W
open Go Go.ChangeShapes Go.WideShapes Go.ChangeAt Go.RowKit
open Go.Proofs.Ytdcioeoofngibaa.P (enc dec)

/-- has a kind field i -/
def inT (k : Int) (i : Nat) : Bool := decide (i < 3) || (fieldsV k).contains (i - 3)
def MF0 : MF := ⟨0, 0, 0, 0, 0, 0, 0, 0, 0, false, [], [], []⟩
def okQ (i : Nat) (q : MF) : Bool := if inT q.k i then fitQ i q else sameQ i q MF0
theorem bits_in (k : Int) (hk : 1 ≤ k ∧ k ≤ 11) (i : Nat) (hi : i < 12) : (bits BinOp.and IntKind.i64 (partsV k) (partN i) == 0) = !inT k i := by
  rcases (show k = 1 ∨ k = 2 ∨ k = 3 ∨ k = 4 ∨ k = 5 ∨ k = 6 ∨ k = 7 ∨ k = 8 ∨ k = 9 ∨ k = 10 ∨ k = 11 by omega) with rfl | rfl | rfl | rfl | rfl | rfl | rfl | rfl | rfl | rfl | rfl <;>
    (rcases below12 hi with rfl | rfl | rfl | rfl | rfl | rfl | rfl | rfl | rfl | rfl | rfl | rfl <;> decide +kernel)
theorem parts_zero {k : Int} (h : partsV k = 1) : ¬ (1 ≤ k ∧ k ≤ 11) := by
  rintro ⟨a, b⟩
  rcases (show k = 1 ∨ k = 2 ∨ k = 3 ∨ k = 4 ∨ k = 5 ∨ k = 6 ∨ k = 7 ∨ k = 8 ∨ k = 9 ∨ k = 10 ∨ k = 11 by omega) with rfl | rfl | rfl | rfl | rfl | rfl | rfl | rfl | rfl | rfl | rfl <;> exact absurd h (by decide)
theorem parts_not {k : Int} (h : partsV k ≠ 1) : 1 ≤ k ∧ k ≤ 11 := by
  rcases kinds11 k with h1 | ⟨h1, h2, h3, h4, h5, h6, h7, h8, h9, h10, h11⟩
  · omega
  · exact absurd (by unfold partsV; simp [h1, h2, h3, h4, h5, h6, h7, h8, h9, h10, h11]) h
theorem chk_kind {q : MF} (h : ¬ (1 ≤ q.k ∧ q.k ≤ 11)) : q.chk = 1 := by
  unfold MF.chk
  rw [if_neg]
  rintro ⟨hf, -⟩
  unfold MF.fits inV at hf
  simp only [Bool.and_eq_true, decide_eq_true_eq] at hf
  exact h hf.1
theorem chk_self {q : MF} (h : q.fr = q.dt) : q.chk = 1 := by
  unfold MF.chk
  rw [if_neg]
  rintro ⟨hf, -⟩
  unfold MF.fits at hf
  simp only [Bool.and_eq_true, Bool.not_eq_true', beq_eq_false_iff_ne] at hf
  exact hf.2.2.2.1 h
theorem chk_all {q : MF} (hk : 1 ≤ q.k ∧ q.k ≤ 11) (hne : q.fr ≠ q.dt) (h : ∀ j, j < 12 → okQ j q = true) : q.chk = 0 := by
  have h0 := h 0 (by decide)
  have h1 := h 1 (by decide)
  have h2 := h 2 (by decide)
  have h3 := h 3 (by decide)
  have h4 := h 4 (by decide)
  have h5 := h 5 (by decide)
  have h6 := h 6 (by decide)
  have h7 := h 7 (by decide)
  have h8 := h 8 (by decide)
  have h9 := h 9 (by decide)
  have h10 := h 10 (by decide)
  have h11 := h 11 (by decide)
  clear h
  obtain ⟨k, fr, dt, tm, ix, lt, cm, rn, cf, ok, d, s, l⟩ := q
  dsimp only at hk hne
  unfold MF.chk
  rw [if_pos]
  rcases (show k = 1 ∨ k = 2 ∨ k = 3 ∨ k = 4 ∨ k = 5 ∨ k = 6 ∨ k = 7 ∨ k = 8 ∨ k = 9 ∨ k = 10 ∨ k = 11 by omega) with rfl | rfl | rfl | rfl | rfl | rfl | rfl | rfl | rfl | rfl | rfl
  all_goals
    simp [okQ, inT, fieldsV, fitQ, sameQ, MF0] at h0 h1 h2 h3 h4 h5 h6 h7 h8 h9 h10 h11
    try (replace h9 := of_decide_eq_true h9; subst h9)
    try (replace h10 := of_decide_eq_true h10; subst h10)
    try (replace h11 := of_decide_eq_true h11; subst h11)
    constructor
    · simp [inV] at h0 h1 h2 h3 h4 h5 h6 h7
      simp [MF.fits, inV]
      simp_all
    · rw [MF.same_iff]
      simp [MF.only, fieldsV, MF.setF, MF.bare, *]
theorem chk_fit {q : MF} (h : q.chk = 0) (j : Nat) (hj : j < 12) : fitQ j q = true := by
  unfold MF.chk at h
  split at h
  · rename_i hh
    have hf := hh.1
    unfold MF.fits at hf
    simp only [Bool.and_eq_true] at hf
    obtain ⟨e0, e1, e2, e3, e4, e5, e6, e7, e8, e9, e10, e11, e12, e13⟩ := hf
    rcases below12 hj with rfl | rfl | rfl | rfl | rfl | rfl | rfl | rfl | rfl | rfl | rfl | rfl
    · exact e1
    · exact e2
    · exact e4
    · exact e5
    · exact e6
    · exact e7
    · exact e8
    · exact e9
    · rfl
    · show (decide (q.l.length ≤ 8) && q.l.all okE) = true
      rw [e10, e13]; rfl
    · exact e11
    · exact e12
  · exact absurd h (by decide)
theorem chk_not {q : MF} (hk : 1 ≤ q.k ∧ q.k ≤ 11) (j : Nat) (hj : j < 12) (h : okQ j q = false) : q.chk = 1 := by
  rcases chk01M q with h0 | h0
  · exfalso
    have hf := chk_fit h0 j hj
    unfold okQ at h
    have ho := (chk_zero h0).2
    split at h
    · rw [hf] at h; cases h
    · rename_i hn
      clear hf h0
      obtain ⟨k, fr, dt, tm, ix, lt, cm, rn, cf, ok, d, s, l⟩ := q
      dsimp only at hk hn
      rcases (show k = 1 ∨ k = 2 ∨ k = 3 ∨ k = 4 ∨ k = 5 ∨ k = 6 ∨ k = 7 ∨ k = 8 ∨ k = 9 ∨ k = 10 ∨ k = 11 by omega) with rfl | rfl | rfl | rfl | rfl | rfl | rfl | rfl | rfl | rfl | rfl
      all_goals
        simp [MF.only, fieldsV, MF.setF, MF.bare] at ho
        rcases below12 hj with rfl | rfl | rfl | rfl | rfl | rfl | rfl | rfl | rfl | rfl | rfl | rfl
        all_goals
          first
            | exact absurd rfl hn
            | (simp [inT, fieldsV] at hn; done)
            | (simp [sameQ, MF0] at h; first | omega | (simp_all; done))
            | (exfalso; have hz := of_decide_eq_false h; simp_all [MF0])
  · exact h0
/-- the bytes of the fields from the first on -/
def putsQ (k : Nat) (q : MF) : List UInt8 := ((List.range k).filter (inT q.k)).flatMap (fun i => putQ i q)
theorem putsQ_next (k : Nat) (q : MF) : putsQ (k + 1) q = putsQ k q ++ (if inT q.k k then putQ k q else []) := by
  unfold putsQ
  rw [List.range_succ, List.filter_append, List.flatMap_append]
  congr 1
  cases h : inT q.k k <;> simp [h]
theorem putsQ_all {q : MF} (hk : 1 ≤ q.k ∧ q.k ≤ 11) : encZ q.k ++ putsQ 12 q = encM q := by
  unfold encM putsQ
  obtain ⟨k, fr, dt, tm, ix, lt, cm, rn, cf, ok, d, s, l⟩ := q
  dsimp only at hk ⊢
  rcases (show k = 1 ∨ k = 2 ∨ k = 3 ∨ k = 4 ∨ k = 5 ∨ k = 6 ∨ k = 7 ∨ k = 8 ∨ k = 9 ∨ k = 10 ∨ k = 11 by omega) with rfl | rfl | rfl | rfl | rfl | rfl | rfl | rfl | rfl | rfl | rfl
  all_goals simp [List.range, List.range.loop, inT, fieldsV, putQ]
/-- the fields from the first on are read -/
def takesQ (kd : Int) (k : Nat) (q : MF × List UInt8 × Int) : MF × List UInt8 × Int := ((List.range k).filter (inT kd)).foldl (fun q i => takeQ i q) q
theorem takesQ_next (kd : Int) (k : Nat) (q : MF × List UInt8 × Int) : takesQ kd (k + 1) q = if inT kd k then takeQ k (takesQ kd k q) else takesQ kd k q := by
  unfold takesQ
  rw [List.range_succ, List.filter_append, List.foldl_append]
  cases h : inT kd k <;> simp [h]
end Go.Proofs.Ytdcioeoofngibaa.W
