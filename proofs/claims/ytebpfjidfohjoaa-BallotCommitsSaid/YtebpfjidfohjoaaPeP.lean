/- LAYER 12 (peers), plain mathematics: members as bits 0 to 6; how many; quorums meet; the best that more than half have, by sorting and by counting. No program. -/
import Derived.Test.YtebpfjidfohjoaaBitsP
set_option linter.unusedSimpArgs false
set_option linter.unusedVariables false
namespace Go.Proofs.Ytebpfjidfohjoaa.B
open Go.RowKit

theorem wrap_U (x : Int) : U (IntKind.i64.wrap x) = U x := by simp only [U, IntKind.wrap_i64]; omega
theorem xor_i64 (x y : Int) : bits .xor .i64 x y = IntKind.i64.wrap ((U x ^^^ U y : Nat) : Int) := by
  show IntKind.i64.wrap ((BitVec.ofInt 64 x ^^^ BitVec.ofInt 64 y).toNat : Int) = _
  rw [BitVec.toNat_xor, ofInt64, ofInt64]
theorem T_xor (x y : Int) (k : Nat) : T (bits .xor .i64 x y) k = (T x k ^^ T y k) := by
  unfold T; rw [xor_i64, U_wrap _ (Nat.xor_lt_two_pow (n := 64) (U_lt x) (U_lt y)), Nat.testBit_xor]
theorem T_127 (k : Nat) : T 127 k = decide (k ≤ 6) := by
  unfold T
  rw [show U 127 = 2 ^ 7 - 1 by decide, Nat.testBit_two_pow_sub_one, decide_eq_decide]; omega
/-- is the node a member -/
def mem (c i : Int) : Bool := decide (0 ≤ i ∧ i ≤ 6) && T c i.toNat
theorem mem_and (c i : Int) : hasV (bits .and .i64 c 127) i = mem c i := by
  unfold hasV mem; rw [T_and, T_127]
  by_cases h : 0 ≤ i ∧ i ≤ 6
  · rw [decide_eq_true h, decide_eq_true (by omega : 0 ≤ i ∧ i ≤ 61), decide_eq_true (by omega : i.toNat ≤ 6)]; simp
  · rw [decide_eq_false h]
    by_cases h2 : 0 ≤ i ∧ i ≤ 61
    · rw [decide_eq_false (by omega : ¬ i.toNat ≤ 6)]; simp
    · rw [decide_eq_false h2]; simp
theorem mem_ref (c i : Int) : ((decide (0 ≤ i) && decide (i ≤ 6)) && hasV c i) = mem c i := by
  unfold hasV mem
  by_cases h : 0 ≤ i ∧ i ≤ 6
  · rw [decide_eq_true h, decide_eq_true (by omega : 0 ≤ i ∧ i ≤ 61), decide_eq_true h.1, decide_eq_true h.2]; simp
  · rw [decide_eq_false h, ← Bool.decide_and, decide_eq_false h]; simp
theorem mem_nat (c : Int) (k : Nat) (h : k ≤ 6) : mem c (k : Int) = T c k := by
  unfold mem; rw [Int.toNat_natCast]; simp; omega
theorem mem_and2 (c y i : Int) : mem (bits .and .i64 c y) i = (mem c i && mem y i) := by
  unfold mem; rw [T_and]; cases decide (0 ≤ i ∧ i ≤ 6) <;> simp
theorem mem_xor (c y i : Int) : mem (bits .xor .i64 c y) i = (mem c i ^^ mem y i) := by
  unfold mem; rw [T_xor]; cases decide (0 ≤ i ∧ i ≤ 6) <;> simp
/-- how many members there are -/
def cntM (c : Int) : Nat := cnt (fun k => mem c (k : Int)) 7
theorem bits_127 (c : Int) : bitsV (bits .and .i64 c 127) = cntM c := by
  unfold bitsV cntM
  rw [cnt_congr _ (fun k => mem c (k : Int)) 62 (fun k _ => mem_and c k)]
  exact cnt_more _ 7 55 fun k hk => by unfold mem; simp; omega
/-- the members below n -/
def lsN (f : Nat → Bool) : Nat → List Nat
  | 0 => []
  | n + 1 => lsN f n ++ if f n then [n] else []
theorem lsN_len (f : Nat → Bool) (n : Nat) : (lsN f n).length = cnt f n := by
  induction n with
  | zero => rfl
  | succ n ih => simp only [lsN, cnt, List.length_append, ih]; split <;> rfl
theorem lsN_lt (f : Nat → Bool) (n : Nat) : ∀ x ∈ lsN f n, x < n ∧ f x = true := by
  induction n with
  | zero => intro x hx; cases hx
  | succ n ih =>
    intro x hx
    rw [lsN, List.mem_append] at hx
    rcases hx with hx | hx
    · exact ⟨Nat.lt_succ_of_lt (ih x hx).1, (ih x hx).2⟩
    · split at hx
      · rename_i h; rw [List.mem_singleton.1 hx]; exact ⟨Nat.lt_succ_self _, h⟩
      · cases hx
def mlN (c : Int) : List Nat := lsN (fun k => mem c (k : Int)) 7
theorem mlN_len (c : Int) : (mlN c).length = cntM c := lsN_len _ _
theorem cntM_le (c : Int) : cntM c ≤ 7 := cnt_le _ _
/-- how many of a list -/
theorem countP_lsN (f g : Nat → Bool) (n : Nat) : (lsN f n).countP g = cnt (fun k => f k && g k) n := by
  induction n with
  | zero => rfl
  | succ n ih => simp only [lsN, cnt, List.countP_append, ih]; by_cases hf : f n = true <;> by_cases hg : g n = true <;> simp [hf, hg]
theorem cnt_pos (f : Nat → Bool) (n : Nat) (h : ∀ k, k < n → f k = false) : cnt f n = 0 := by
  rw [cnt_congr f (fun _ => false) n h]; induction n with
  | zero => rfl
  | succ n ih => simp only [cnt]; rw [ih (fun k hk => h k (by omega))]; rfl
/-- one set more than half in another one, and so in a third one that differs in one place at most: they meet -/
theorem meet_aux (o c a b : Nat → Bool) (n : Nat) (h : ∀ k, k < n → (a k && b k) = false) :
    2 * cnt (fun k => o k && a k) n + 2 * cnt (fun k => c k && b k) n ≤ cnt o n + cnt c n + cnt (fun k => o k ^^ c k) n := by
  induction n with
  | zero => simp [cnt]
  | succ n ih =>
    have := ih fun k hk => h k (by omega)
    have hn := h n (by omega)
    simp only [cnt]
    by_cases h1 : o n = true <;> by_cases h2 : c n = true <;> by_cases ha : a n = true <;> by_cases hb : b n = true <;> simp [h1, h2, ha, hb] at hn ⊢ <;> omega
theorem meet (o c a b : Nat → Bool) (n : Nat) (hx : cnt (fun k => o k ^^ c k) n ≤ 1) (h1 : cnt o n < 2 * cnt (fun k => o k && a k) n) (h2 : cnt c n < 2 * cnt (fun k => c k && b k) n) :
    ¬ ∀ k, k < n → (a k && b k) = false := fun h => by
  have := meet_aux o c a b n h
  omega

/-! ### what more than half have -/
/-- how many of a list are at least so much, and above it -/
def nGe (V : List Int) (b : Int) : Nat := V.countP fun x => decide (b ≤ x)
def nGt (V : List Int) (b : Int) : Nat := V.countP fun x => decide (b < x)
/-- the greatest that more than half have; 0 of none -/
def Best (V : List Int) (b : Int) : Prop := (V = [] ∧ b = 0) ∨ (b ∈ V ∧ V.length < 2 * nGe V b ∧ 2 * nGt V b ≤ V.length)
theorem ge_le_gt (V : List Int) {b b' : Int} (h : b < b') : nGe V b' ≤ nGt V b :=
  List.countP_mono_left fun x _ hx => by simp at hx ⊢; omega
theorem Best.unique {V : List Int} {b b' : Int} (h : Best V b) (h' : Best V b') : b = b' := by
  rcases h with ⟨rfl, rfl⟩ | ⟨h1, h2, h3⟩
  · rcases h' with ⟨-, rfl⟩ | ⟨h1, -, -⟩
    · rfl
    · cases h1
  · rcases h' with ⟨rfl, -⟩ | ⟨k1, k2, k3⟩
    · cases h1
    · rcases Int.lt_trichotomy b b' with h | h | h
      · have := ge_le_gt V h; omega
      · exact h
      · have := ge_le_gt V h; omega
theorem Best.perm {V S : List Int} {b : Int} (h : Best S b) (hp : S.Perm V) : Best V b := by
  rcases h with ⟨rfl, rfl⟩ | ⟨h1, h2, h3⟩
  · exact .inl ⟨hp.symm.eq_nil, rfl⟩
  · have e1 : nGe V b = nGe S b := (hp.countP_eq _).symm
    have e2 : nGt V b = nGt S b := (hp.countP_eq _).symm
    exact .inr ⟨hp.mem_iff.1 h1, by rw [e1, ← hp.length_eq]; exact h2, by rw [e2, ← hp.length_eq]; exact h3⟩
theorem sorted_best (S : List Int) (hs : S.Pairwise (· ≤ ·)) (h0 : S ≠ []) : Best S (S.getD ((S.length - 1) / 2) 0) := by
  have hn : 0 < S.length := List.length_pos_iff.2 h0
  obtain ⟨k, hk⟩ : ∃ k, (S.length - 1) / 2 = k := ⟨_, rfl⟩
  have hkn : k < S.length := by omega
  rw [hk]
  have hb : S.getD k 0 = S[k] := by simp [hkn]
  rw [hb]
  have hle : ∀ i j (hi : i < S.length) (hj : j < S.length), i ≤ j → S[i] ≤ S[j] := by
    intro i j hi hj hij
    rcases Nat.lt_or_eq_of_le hij with h | rfl
    · exact List.pairwise_iff_getElem.1 hs i j hi hj h
    · exact Int.le_refl _
  refine .inr ⟨List.getElem_mem hkn, ?_, ?_⟩
  · have e : nGe S S[k] = nGe (S.take k) S[k] + nGe (S.drop k) S[k] := by
      unfold nGe; rw [← List.countP_append, List.take_append_drop]
    have e2 : nGe (S.drop k) S[k] = S.length - k := by
      unfold nGe
      rw [List.countP_eq_length.2, List.length_drop]
      intro x hx
      obtain ⟨j, hj, rfl⟩ := List.getElem_of_mem hx
      rw [List.getElem_drop]
      simp only [decide_eq_true_eq]
      exact hle _ _ _ _ (by omega)
    omega
  · have e : nGt S S[k] = nGt (S.take (k + 1)) S[k] + nGt (S.drop (k + 1)) S[k] := by
      unfold nGt; rw [← List.countP_append, List.take_append_drop]
    have e1 : nGt (S.take (k + 1)) S[k] = 0 := by
      unfold nGt
      rw [List.countP_eq_zero]
      intro x hx
      obtain ⟨j, hj, rfl⟩ := List.getElem_of_mem hx
      have hj' : j < k + 1 ∧ j < S.length := by rw [List.length_take] at hj; omega
      rw [List.getElem_take]
      simp only [decide_eq_true_eq, Int.not_lt]
      exact hle _ _ _ _ (by omega)
    have e2 : nGt (S.drop (k + 1)) S[k] ≤ S.length - (k + 1) := by
      unfold nGt
      exact Nat.le_trans List.countP_le_length (by rw [List.length_drop]; exact Nat.le_refl _)
    omega
theorem best_ex (V : List Int) : ∃ b, Best V b := by
  by_cases h0 : V = []
  · exact ⟨0, .inl ⟨h0, rfl⟩⟩
  · have hp : (V.mergeSort fun a b => decide (a ≤ b)).Perm V := List.mergeSort_perm _ _
    have hs : (V.mergeSort fun a b => decide (a ≤ b)).Pairwise fun a b => decide (a ≤ b) = true := List.pairwise_mergeSort (fun a b c h k => by simp at h k ⊢; omega) (fun a b => by simp; omega) V
    exact ⟨_, (sorted_best _ (hs.imp fun h => by simpa using h) fun e => h0 (by rw [e] at hp; exact hp.symm.eq_nil)).perm hp⟩
/-- what the reference finds -/
theorem best_of {V : List Int} {b : Int} (h1 : b ∈ V) (h2 : V.length < 2 * nGe V b) (h3 : ∀ x ∈ V, V.length < 2 * nGe V x → x ≤ b) : Best V b := by
  obtain ⟨b0, h⟩ := best_ex V
  rcases h with ⟨rfl, -⟩ | ⟨k1, k2, k3⟩
  · cases h1
  · rcases Int.lt_trichotomy b0 b with h | rfl | h
    · have := ge_le_gt V h; omega
    · exact .inr ⟨k1, k2, k3⟩
    · have := h3 b0 k1 k2; omega
theorem best_some {V : List Int} (h0 : V ≠ []) : ∃ b ∈ V, V.length < 2 * nGe V b := by
  obtain ⟨b0, h⟩ := best_ex V
  rcases h with ⟨rfl, -⟩ | ⟨k1, k2, k3⟩
  · exact absurd rfl h0
  · exact ⟨b0, k1, k2⟩
end Go.Proofs.Ytebpfjidfohjoaa.B
