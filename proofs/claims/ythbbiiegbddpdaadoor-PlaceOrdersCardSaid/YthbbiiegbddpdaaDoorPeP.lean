/- LAYER 12 (peers), plain mathematics: members as bits 0 to 6; how many; quorums meet; the best that more than half have, by sorting and by counting. No program. LAYER 12 (peers): the program's Check, Has, Count, Quorum, All, Change; the reference's Check, Has, All, Change: no memory. LAYER 12 (peers): the reference's Change. LAYER 12 (peers): lists of ints that a call made and owns: append, equality; the reference's List, Count, Quorum. LAYER 12 (peers): equality of lists of ints; the reference's Count, Quorum. -/
import Derived.Test.YthbbiiegbddpdaaDoorBitsP
import Derived.Test.YthbbiiegbddpdaaDoorNumsW
import Derived.Test.YthbbiiegbddpdaaDoorOwn
import Derived.Test.YthbbiiegbddpdaaDoorTail
set_option linter.unusedSimpArgs false
set_option linter.unusedVariables false
namespace Go.Proofs.YthbbiiegbddpdaaDoor.B
open Go.RowKit

theorem wrap_U (x : Int) : U (IntKind.i64.wrap x) = U x := by simp only [U, IntKind.wrap_i64]; omega
theorem xor_i64 (x y : Int) : bits .xor .i64 x y = IntKind.i64.wrap ((U x ^^^ U y : Nat) : Int) := by
  show IntKind.i64.wrap ((BitVec.ofInt 64 x ^^^ BitVec.ofInt 64 y).toNat : Int) = _
  rw [BitVec.toNat_xor, ofInt64, ofInt64]
theorem T_xor (x y : Int) (k : Nat) : T (bits .xor .i64 x y) k = (T x k ^^ T y k) := by
  unfold T; rw [xor_i64, U_wrap _ (Nat.xor_lt_two_pow (n := 64) (U_lt x) (U_lt y)), Nat.testBit_xor]
theorem T_127 (k : Nat) : T 127 k = decide (k ≤ 6) := by
  unfold T
  rw [show U 127 = 2 ^ 7 - 1 by decide, Nat.testBit_two_pow_sub_one, decide_eq_decide]; omega
/-- is the node a member -/
def mem (c i : Int) : Bool := decide (0 ≤ i ∧ i ≤ 6) && T c i.toNat
theorem mem_and (c i : Int) : hasV (bits .and .i64 c 127) i = mem c i := by
  unfold hasV mem; rw [T_and, T_127]
  by_cases h : 0 ≤ i ∧ i ≤ 6
  · rw [decide_eq_true h, decide_eq_true (by omega : 0 ≤ i ∧ i ≤ 61), decide_eq_true (by omega : i.toNat ≤ 6)]; simp
  · rw [decide_eq_false h]
    by_cases h2 : 0 ≤ i ∧ i ≤ 61
    · rw [decide_eq_false (by omega : ¬ i.toNat ≤ 6)]; simp
    · rw [decide_eq_false h2]; simp
theorem mem_ref (c i : Int) : ((decide (0 ≤ i) && decide (i ≤ 6)) && hasV c i) = mem c i := by
  unfold hasV mem
  by_cases h : 0 ≤ i ∧ i ≤ 6
  · rw [decide_eq_true h, decide_eq_true (by omega : 0 ≤ i ∧ i ≤ 61), decide_eq_true h.1, decide_eq_true h.2]; simp
  · rw [decide_eq_false h, ← Bool.decide_and, decide_eq_false h]; simp
theorem mem_nat (c : Int) (k : Nat) (h : k ≤ 6) : mem c (k : Int) = T c k := by
  unfold mem; rw [Int.toNat_natCast]; simp; omega
theorem mem_and2 (c y i : Int) : mem (bits .and .i64 c y) i = (mem c i && mem y i) := by
  unfold mem; rw [T_and]; cases decide (0 ≤ i ∧ i ≤ 6) <;> simp
theorem mem_xor (c y i : Int) : mem (bits .xor .i64 c y) i = (mem c i ^^ mem y i) := by
  unfold mem; rw [T_xor]; cases decide (0 ≤ i ∧ i ≤ 6) <;> simp
/-- how many members there are -/
def cntM (c : Int) : Nat := cnt (fun k => mem c (k : Int)) 7
theorem bits_127 (c : Int) : bitsV (bits .and .i64 c 127) = cntM c := by
  unfold bitsV cntM
  rw [cnt_congr _ (fun k => mem c (k : Int)) 62 (fun k _ => mem_and c k)]
  exact cnt_more _ 7 55 fun k hk => by unfold mem; simp; omega
/-- the members below n -/
def lsN (f : Nat → Bool) : Nat → List Nat
  | 0 => []
  | n + 1 => lsN f n ++ if f n then [n] else []
theorem lsN_len (f : Nat → Bool) (n : Nat) : (lsN f n).length = cnt f n := by
  induction n with
  | zero => rfl
  | succ n ih => simp only [lsN, cnt, List.length_append, ih]; split <;> rfl
theorem lsN_lt (f : Nat → Bool) (n : Nat) : ∀ x ∈ lsN f n, x < n ∧ f x = true := by
  induction n with
  | zero => intro x hx; cases hx
  | succ n ih =>
    intro x hx
    rw [lsN, List.mem_append] at hx
    rcases hx with hx | hx
    · exact ⟨Nat.lt_succ_of_lt (ih x hx).1, (ih x hx).2⟩
    · split at hx
      · rename_i h; rw [List.mem_singleton.1 hx]; exact ⟨Nat.lt_succ_self _, h⟩
      · cases hx
def mlN (c : Int) : List Nat := lsN (fun k => mem c (k : Int)) 7
theorem mlN_len (c : Int) : (mlN c).length = cntM c := lsN_len _ _
theorem cntM_le (c : Int) : cntM c ≤ 7 := cnt_le _ _
/-- how many of a list -/
theorem countP_lsN (f g : Nat → Bool) (n : Nat) : (lsN f n).countP g = cnt (fun k => f k && g k) n := by
  induction n with
  | zero => rfl
  | succ n ih => simp only [lsN, cnt, List.countP_append, ih]; by_cases hf : f n = true <;> by_cases hg : g n = true <;> simp [hf, hg]
theorem cnt_pos (f : Nat → Bool) (n : Nat) (h : ∀ k, k < n → f k = false) : cnt f n = 0 := by
  rw [cnt_congr f (fun _ => false) n h]; induction n with
  | zero => rfl
  | succ n ih => simp only [cnt]; rw [ih (fun k hk => h k (by omega))]; rfl
/-- one set more than half in another one, and so in a third one that differs in one place at most: they meet -/
theorem meet_aux (o c a b : Nat → Bool) (n : Nat) (h : ∀ k, k < n → (a k && b k) = false) :
    2 * cnt (fun k => o k && a k) n + 2 * cnt (fun k => c k && b k) n ≤ cnt o n + cnt c n + cnt (fun k => o k ^^ c k) n := by
  induction n with
  | zero => simp [cnt]
  | succ n ih =>
    have := ih fun k hk => h k (by omega)
    have hn := h n (by omega)
    simp only [cnt]
    by_cases h1 : o n = true <;> by_cases h2 : c n = true <;> by_cases ha : a n = true <;> by_cases hb : b n = true <;> simp [h1, h2, ha, hb] at hn ⊢ <;> omega
theorem meet (o c a b : Nat → Bool) (n : Nat) (hx : cnt (fun k => o k ^^ c k) n ≤ 1) (h1 : cnt o n < 2 * cnt (fun k => o k && a k) n) (h2 : cnt c n < 2 * cnt (fun k => c k && b k) n) :
    ¬ ∀ k, k < n → (a k && b k) = false := fun h => by
  have := meet_aux o c a b n h
  omega

/-! ### what more than half have -/
/-- how many of a list are at least so much, and above it -/
def nGe (V : List Int) (b : Int) : Nat := V.countP fun x => decide (b ≤ x)
def nGt (V : List Int) (b : Int) : Nat := V.countP fun x => decide (b < x)
/-- the greatest that more than half have; 0 of none -/
def Best (V : List Int) (b : Int) : Prop := (V = [] ∧ b = 0) ∨ (b ∈ V ∧ V.length < 2 * nGe V b ∧ 2 * nGt V b ≤ V.length)
theorem ge_le_gt (V : List Int) {b b' : Int} (h : b < b') : nGe V b' ≤ nGt V b :=
  List.countP_mono_left fun x _ hx => by simp at hx ⊢; omega
theorem Best.unique {V : List Int} {b b' : Int} (h : Best V b) (h' : Best V b') : b = b' := by
  rcases h with ⟨rfl, rfl⟩ | ⟨h1, h2, h3⟩
  · rcases h' with ⟨-, rfl⟩ | ⟨h1, -, -⟩
    · rfl
    · cases h1
  · rcases h' with ⟨rfl, -⟩ | ⟨k1, k2, k3⟩
    · cases h1
    · rcases Int.lt_trichotomy b b' with h | h | h
      · have := ge_le_gt V h; omega
      · exact h
      · have := ge_le_gt V h; omega
theorem Best.perm {V S : List Int} {b : Int} (h : Best S b) (hp : S.Perm V) : Best V b := by
  rcases h with ⟨rfl, rfl⟩ | ⟨h1, h2, h3⟩
  · exact .inl ⟨hp.symm.eq_nil, rfl⟩
  · have e1 : nGe V b = nGe S b := (hp.countP_eq _).symm
    have e2 : nGt V b = nGt S b := (hp.countP_eq _).symm
    exact .inr ⟨hp.mem_iff.1 h1, by rw [e1, ← hp.length_eq]; exact h2, by rw [e2, ← hp.length_eq]; exact h3⟩
theorem sorted_best (S : List Int) (hs : S.Pairwise (· ≤ ·)) (h0 : S ≠ []) : Best S (S.getD ((S.length - 1) / 2) 0) := by
  have hn : 0 < S.length := List.length_pos_iff.2 h0
  obtain ⟨k, hk⟩ : ∃ k, (S.length - 1) / 2 = k := ⟨_, rfl⟩
  have hkn : k < S.length := by omega
  rw [hk]
  have hb : S.getD k 0 = S[k] := by simp [hkn]
  rw [hb]
  have hle : ∀ i j (hi : i < S.length) (hj : j < S.length), i ≤ j → S[i] ≤ S[j] := by
    intro i j hi hj hij
    rcases Nat.lt_or_eq_of_le hij with h | rfl
    · exact List.pairwise_iff_getElem.1 hs i j hi hj h
    · exact Int.le_refl _
  refine .inr ⟨List.getElem_mem hkn, ?_, ?_⟩
  · have e : nGe S S[k] = nGe (S.take k) S[k] + nGe (S.drop k) S[k] := by
      unfold nGe; rw [← List.countP_append, List.take_append_drop]
    have e2 : nGe (S.drop k) S[k] = S.length - k := by
      unfold nGe
      rw [List.countP_eq_length.2, List.length_drop]
      intro x hx
      obtain ⟨j, hj, rfl⟩ := List.getElem_of_mem hx
      rw [List.getElem_drop]
      simp only [decide_eq_true_eq]
      exact hle _ _ _ _ (by omega)
    omega
  · have e : nGt S S[k] = nGt (S.take (k + 1)) S[k] + nGt (S.drop (k + 1)) S[k] := by
      unfold nGt; rw [← List.countP_append, List.take_append_drop]
    have e1 : nGt (S.take (k + 1)) S[k] = 0 := by
      unfold nGt
      rw [List.countP_eq_zero]
      intro x hx
      obtain ⟨j, hj, rfl⟩ := List.getElem_of_mem hx
      have hj' : j < k + 1 ∧ j < S.length := by rw [List.length_take] at hj; omega
      rw [List.getElem_take]
      simp only [decide_eq_true_eq, Int.not_lt]
      exact hle _ _ _ _ (by omega)
    have e2 : nGt (S.drop (k + 1)) S[k] ≤ S.length - (k + 1) := by
      unfold nGt
      exact Nat.le_trans List.countP_le_length (by rw [List.length_drop]; exact Nat.le_refl _)
    omega
theorem best_ex (V : List Int) : ∃ b, Best V b := by
  by_cases h0 : V = []
  · exact ⟨0, .inl ⟨h0, rfl⟩⟩
  · have hp : (V.mergeSort fun a b => decide (a ≤ b)).Perm V := List.mergeSort_perm _ _
    have hs : (V.mergeSort fun a b => decide (a ≤ b)).Pairwise fun a b => decide (a ≤ b) = true := List.pairwise_mergeSort (fun a b c h k => by simp at h k ⊢; omega) (fun a b => by simp; omega) V
    exact ⟨_, (sorted_best _ (hs.imp fun h => by simpa using h) fun e => h0 (by rw [e] at hp; exact hp.symm.eq_nil)).perm hp⟩
/-- what the reference finds -/
theorem best_of {V : List Int} {b : Int} (h1 : b ∈ V) (h2 : V.length < 2 * nGe V b) (h3 : ∀ x ∈ V, V.length < 2 * nGe V x → x ≤ b) : Best V b := by
  obtain ⟨b0, h⟩ := best_ex V
  rcases h with ⟨rfl, -⟩ | ⟨k1, k2, k3⟩
  · cases h1
  · rcases Int.lt_trichotomy b0 b with h | rfl | h
    · have := ge_le_gt V h; omega
    · exact .inr ⟨k1, k2, k3⟩
    · have := h3 b0 k1 k2; omega
theorem best_some {V : List Int} (h0 : V ≠ []) : ∃ b ∈ V, V.length < 2 * nGe V b := by
  obtain ⟨b0, h⟩ := best_ex V
  rcases h with ⟨rfl, -⟩ | ⟨k1, k2, k3⟩
  · exact absurd rfl h0
  · exact ⟨b0, k1, k2⟩
end Go.Proofs.YthbbiiegbddpdaaDoor.B

namespace Go.Proofs.YthbbiiegbddpdaaDoor.W
open Go Go.ChangeShapes Go.WideShapes Go.ChangeAt Go.RowKit
open Go.Proofs.YthbbiiegbddpdaaDoor.B (hasV elV bitsV mem mem_and mem_ref cntM cnt T bits_127 cntM_le)

/-- may it be members: the error's number -/
def chkM (c : Int) : Int := if 1 ≤ c ∧ c ≤ 127 then 0 else 1
/-- are more than half of the members in yes -/
def quoM (c y : Int) : Bool := decide (cntM c < 2 * cnt (fun k => mem c (k : Int) && mem y (k : Int)) 7)
theorem cnt_and (c y : Int) : cntM (bits .and .i64 c y) = cnt (fun k => mem c (k : Int) && mem y (k : Int)) 7 := by
  unfold cntM; exact B.cnt_congr _ _ 7 fun k _ => B.mem_and2 c y k
/-- all nodes below n -/
def allM (n : Int) : Int := if n ≤ 0 then 0 else if 7 ≤ n then 127 else 2 ^ n.toNat - 1
theorem all_cases (n : Int) : (n ≤ 0 ∧ allM n = 0) ∨ (n = 1 ∧ allM n = 1) ∨ (n = 2 ∧ allM n = 3) ∨ (n = 3 ∧ allM n = 7) ∨ (n = 4 ∧ allM n = 15) ∨ (n = 5 ∧ allM n = 31) ∨ (n = 6 ∧ allM n = 63) ∨ (7 ≤ n ∧ allM n = 127) := by
  by_cases h0 : n ≤ 0
  · exact .inl ⟨h0, by unfold allM; rw [if_pos h0]⟩
  · by_cases h7 : 7 ≤ n
    · exact .inr (.inr (.inr (.inr (.inr (.inr (.inr ⟨h7, by unfold allM; rw [if_neg h0, if_pos h7]⟩))))))
    · have : n = 1 ∨ n = 2 ∨ n = 3 ∨ n = 4 ∨ n = 5 ∨ n = 6 := by omega
      rcases this with rfl | rfl | rfl | rfl | rfl | rfl <;> simp [allM]
theorem all_step : ∀ k : Fin 7, bits .or .i64 (2 ^ k.val - 1) (elV (k.val : Int)) = 2 ^ (k.val + 1) - 1 := by decide
/-- may members become others: the error's number -/
def chgM (o c : Int) : Int := if chkM o = 0 ∧ chkM c = 0 ∧ cnt (fun k => mem o (k : Int) ^^ mem c (k : Int)) 7 = 1 then 0 else 19
theorem cnt_xor (c y : Int) : cntM (bits .xor .i64 c y) = cnt (fun k => mem c (k : Int) ^^ mem y (k : Int)) 7 := by
  unfold cntM; exact B.cnt_congr _ _ 7 fun k _ => B.mem_xor c y k
theorem chk01 (c : Int) : chkM c = 0 ∨ chkM c = 1 := by unfold chkM; split <;> simp
end Go.Proofs.YthbbiiegbddpdaaDoor.W

namespace Go.Proofs.YthbbiiegbddpdaaDoor.W
open Go Go.ChangeShapes Go.WideShapes Go.ChangeAt Go.RowKit
open Go.Proofs.YthbbiiegbddpdaaDoor.B (hasV elV bitsV mem mem_and mem_ref cntM cnt T bits_127 cntM_le)

end Go.Proofs.YthbbiiegbddpdaaDoor.W

namespace Go.Proofs.YthbbiiegbddpdaaDoor.W
open Go Go.ChangeShapes Go.WideShapes Go.ChangeAt Go.RowKit
open Go.Proofs.YthbbiiegbddpdaaDoor.B (hasV elV bitsV mem mem_and mem_ref cntM cnt T bits_127 cntM_le lsN lsN_len lsN_lt mlN)

/-- A slice of ints that the call made, and owns from block number base on. -/
def OwI (w : World) (base : Nat) (v : Value) (L : List Int) : Prop := w.ownsRow base 3 1 v L.length (L.map (Value.int .i64))
theorem OwI.nil (w : World) (base : Nat) : OwI w base (.slice none 0 0) [] := World.ownsRow_nil _ _ _ _
theorem OwI.kept {w w' : World} {base : Nat} {v : Value} {L : List Int} (h : OwI w base v L) (hb : Below w.heap.size w w') : OwI w' base v L := by
  have hlt := World.ownsRow.lt h
  obtain ⟨h1, h2⟩ := h
  refine ⟨h1, ?_⟩
  rcases h2 with h2 | ⟨g, cap, cur, rfl, hg, hh, r⟩
  · exact .inl h2
  · exact .inr ⟨g, cap, cur, rfl, hg, by rw [hb.block g (hlt g rfl).2]; exact hh, r⟩
theorem OwI.base {w : World} {base base' : Nat} {v : Value} {L : List Int} (h : OwI w base v L) (hb : base' ≤ base) : OwI w base' v L := by
  obtain ⟨h1, h2⟩ := h
  refine ⟨h1, ?_⟩
  rcases h2 with h2 | ⟨g, cap, cur, rfl, hg, r⟩
  · exact .inl h2
  · exact .inr ⟨g, cap, cur, rfl, Nat.le_trans hb hg, r⟩
/-- what it is, and that it reads as its list -/
theorem OwI.form {w : World} {base : Nat} {v : Value} {L : List Int} (h : OwI w base v L) (hw : ∀ x ∈ L, (Lit.int .i64 x).wf = true) :
    ∃ a cap, v = .slice a L.length cap ∧ L.length ≤ cap ∧ cap ≤ maxLen ∧ Sl .i64 w a L.length L := Sl.of_own h hw
/-- without the words on sizes: where it lies -/
theorem OwI.at {w : World} {base : Nat} {v : Value} {L : List Int} (h : OwI w base v L) :
    ∃ a cap, v = .slice a L.length cap ∧ L.length ≤ cap ∧ cap ≤ maxLen ∧ (L.length = 0 ∨ ∃ g, a = some ⟨g, 0, none⟩ ∧ base ≤ g ∧ g < w.heap.size ∧ ∀ i, i < L.length → w.cell? ⟨g, i, none⟩ = some (.int .i64 (L.getD i 0))) := by
  have hc := fun g hg => World.ownsRow.cells h (g := g) hg
  have hlt := World.ownsRow.lt h
  obtain ⟨h1, h2⟩ := h
  rcases h2 with ⟨rfl, h0⟩ | ⟨g, cap, cur, rfl, hg, hh, hn, hm, r⟩
  · rw [h0]; exact ⟨none, 0, rfl, Nat.le_refl _, Nat.zero_le _, .inl rfl⟩
  · refine ⟨_, cap, rfl, hn, hm, .inr ⟨g, rfl, hg, (hlt g rfl).2, fun i hi => ?_⟩⟩
    have h3 := hc g rfl i (.int .i64 (L.getD i 0)) (by simp [hi])
    rw [Go.WideShapes.add_plain, Nat.zero_add] at h3; exact h3
theorem infoInt : (Tryd.prog.info? 3).map (fun i => (i.zero, i.size, i.bytes)) = some (some (.int .i64 0), 1, 8) := by kernel_rfl
theorem OwI.append {w w' : World} {base : Nat} {v' : Value} {L : List Int} {n : Int} (h : w'.ownsRow base 3 1 v' (L.length + 1) (L.map (Value.int .i64) ++ [.int .i64 n])) : OwI w' base v' (L ++ [n]) := by
  unfold OwI; rw [List.length_append, List.map_append]; exact h
/-- APPEND of one int to what the call owns. -/
theorem append_int {w : World} {ops : Array Oper} {rest : List Oper} {o : Oper} {a : Act} {Q : Exit → Act → World → Prop} (hgd : o.guard = none) (s x : Operand)
    (ho : o.op = .call { callee := .builtin .append, args := #[s, x], argTypes := #[24, 24] })
    (base : Nat) (v : Value) (L : List Int) (hs : a.eval s = v) (hown : OwI w base v L) (g c : Nat) (hx : a.eval x = .slice (some ⟨g, 0, none⟩) 1 c)
    (n : Int) (hcell : w.cell? ⟨g, 0, none⟩ = some (.int .i64 n)) (hmax : L.length ≤ 1000000) (hbase : base ≤ w.heap.size)
    (h : ∀ v' w', OwI w' base v' (L ++ [n]) → Below base w w' → wpList Tryd.prog ops Q rest (a.put o.dst v') w') : wpList Tryd.prog ops Q (o :: rest) a w := by
  obtain ⟨i0, hi, hz0, hz1, hz2⟩ := info_parts infoInt
  have hlt := World.ownsRow.lt hown
  refine append_at hgd s x 24 3 ho base i0 _ 1 8 Tryd.underlying24 hi hz0 hz1 hz2 rfl (by decide) v L.length (L.map (Value.int .i64)) hs hown ⟨g, 0, none⟩ 1 c [.int .i64 n] hx rfl ?_ ?_ (by unfold maxLen; omega) (by omega) hbase ?_
  · intro j u hj
    obtain ⟨rfl, rfl⟩ : j = 0 ∧ .int .i64 n = u := by
      rcases j with _ | j
      · exact ⟨rfl, by simpa using hj⟩
      · simp at hj
    rw [Go.WideShapes.add_plain]; exact hcell
  · intro u hu
    rw [List.mem_singleton.1 hu]; rfl
  · intro v' w' hown' hg hblk
    exact h _ w' (OwI.append (w := w) hown') ((Below.refl _ _).grown hg hbase (fun k hk => (hlt k hk).1))

/-- the members below k, as numbers -/
def LI (f : Nat → Bool) (k : Nat) : List Int := (lsN f k).map Int.ofNat
theorem LI_len (f : Nat → Bool) (k : Nat) : (LI f k).length = cnt f k := by unfold LI; rw [List.length_map, lsN_len]
theorem LI_succ (f : Nat → Bool) (k : Nat) : LI f (k + 1) = LI f k ++ if f k then [(k : Int)] else [] := by
  unfold LI; simp only [lsN]; rw [List.map_append]; split <;> rfl
theorem LI_wf (f : Nat → Bool) (k : Nat) (hk : k ≤ 7) : ∀ x ∈ LI f k, (Lit.int .i64 x).wf = true := by
  intro x hx
  obtain ⟨j, hj, rfl⟩ := List.mem_map.1 hx
  have := (lsN_lt f k j hj).1
  show (Lit.int .i64 (j : Int)).wf = true
  simp [Lit.wf, IntKind.min, IntKind.max, IntKind.bits, IntKind.signed]; omega
/-- the members -/
def mlI (c : Int) : List Int := LI (fun k => mem c (k : Int)) 7

end Go.Proofs.YthbbiiegbddpdaaDoor.W

namespace Go.Proofs.YthbbiiegbddpdaaDoor.W
open Go Go.ChangeShapes Go.WideShapes Go.ChangeAt Go.RowKit
open Go.Proofs.YthbbiiegbddpdaaDoor.B (hasV elV bitsV mem mem_and mem_ref cntM cnt T bits_127 cntM_le lsN lsN_len lsN_lt mlN)

theorem take_snoc_eqI {l l' : List Int} {k : Nat} (h : k < l.length) (h' : k < l'.length) (ht : l.take k = l'.take k) (hx : l.getD k 0 = l'.getD k 0) : l.take (k + 1) = l'.take (k + 1) := by
  rw [List.take_succ_eq_append_getElem h, List.take_succ_eq_append_getElem h', ht]
  have h1 : l.getD k 0 = l[k] := by simp [h]
  have h2 : l'.getD k 0 = l'[k] := by simp [h']
  rw [← h1, ← h2, hx]
theorem mlI_len (c : Int) : (mlI c).length = cntM c := LI_len _ _
theorem mlI_wf (c : Int) : ∀ x ∈ mlI c, (Lit.int .i64 x).wf = true := LI_wf _ _ (Nat.le_refl _)

set_option maxRecDepth 100000 in
set_option maxHeartbeats 1000000 in
theorem iequal (a a' : Option Addr) (n n' c c' : Nat) (l l' : List Int) (w : World) (hr : Sl .i64 w a n l) (hr' : Sl .i64 w a' n' l') (hm : n ≤ 1000000) (hm' : n' ≤ 1000000) :
    Calls Tryd.prog 7 #[.slice a n c, .slice a' n' c'] w fun e w' => e = .returned (.bool (decide (l = l'))) ∧ Below w.heap.size w w' := by
  obtain ⟨hl, -, -, h4⟩ := hr
  obtain ⟨hl', -, -, h4'⟩ := hr'
  by_cases hn : n = n'
  · subst hn
    have HL := Lib.hid hl
    have HL' := Lib.hid hl'
    by_cases h0 : n = 0
    · have e : l = l' := by rw [List.eq_nil_of_length_eq_zero (l := l) (by omega), List.eq_nil_of_length_eq_zero (l := l') (by omega)]
      subst h0
      clear hl hl' h4 h4' hm hm'
      go_enter Tryd.func7, Tryd.ntmps7
      go_wp2_with fail
      go_loopw [13] (fun i wr => i = .int .i64 0 ∧ w = wr) (fun _ _ => 0)
      case atStart => exact ⟨rfl, rfl⟩
      case round =>
        obtain ⟨rfl, rfl⟩ := hrel
        go_wp2_with fail
        go_ret
        exact ⟨one (vbool (by simp [e])), Below.refl _ _⟩
    · obtain ⟨b, off, rfl, hlt, hc⟩ := h4.resolve_left h0
      obtain ⟨b', off', rfl, hlt', hc'⟩ := h4'.resolve_left h0
      have HC := Lib.hid hc
      have HC' := Lib.hid hc'
      clear hl hl' h4 h4' hc hc'
      go_enter Tryd.func7, Tryd.ntmps7
      go_wp2_with fail
      go_loopw [13] (fun i wr => ∃ k q : Nat, i = .int .i64 k ∧ k ≤ n ∧ Hid (l.take k = l'.take k) ∧ wr = w.drewN q) (fun i _ => n - (intOf i).toNat)
      case atStart => exact ⟨0, 0, rfl, Nat.zero_le _, Lib.hid rfl, rfl⟩
      case round =>
        obtain ⟨k, q, rfl, hk, HT, rfl⟩ := hrel
        by_cases hkn : k < n
        · have c1 : w.cell? ⟨b, off + k, none⟩ = some (.int .i64 (l.getD k 0)) := HC.out k hkn
          have c2 : w.cell? ⟨b', off' + k, none⟩ = some (.int .i64 (l'.getD k 0)) := HC'.out k hkn
          have hkl : k < l.length := by rw [HL.out]; exact hkn
          have hkl' : k < l'.length := by rw [HL'.out]; exact hkn
          by_cases hx : l.getD k 0 = l'.getD k 0
          · have HT2 := Lib.hid (take_snoc_eqI hkl hkl' HT.out hx)
            rw [← hx] at c2
            clear hkl hkl' hx
            generalize l.getD k 0 = x at *
            go_wp2_with fail
            go_quiet (fail)
            go_wp2_with fail
            go_roundw
            case rel => exact ⟨k + 1, q + nq, by go_num, by omega, HT2, by first | rfl | rw [World.drewN_drewN]⟩
            case measure => simp [intOf]; omega
          · have e : l ≠ l' := by rintro rfl; exact hx rfl
            have hd : ((l.getD k 0) != (l'.getD k 0)) = true := by
              rw [bne_iff_ne]; exact hx
            have E := Lib.hid e
            clear hkl hkl' hx e
            generalize l.getD k 0 = x at *
            generalize l'.getD k 0 = y at *
            go_wp2_with fail
            go_quiet (fail)
            go_wp2_with fail
            go_ret
            exact ⟨one (vbool (by have := E.out; simp [this])), by first | exact below_drewN (Below.refl _ _) _ | (rw [World.drewN_drewN]; exact below_drewN (Below.refl _ _) _)⟩
        · obtain rfl : k = n := by omega
          have e : l = l' := by
            have := HT.out
            rwa [List.take_of_length_le (by rw [HL.out]; omega), List.take_of_length_le (by rw [HL'.out]; omega)] at this
          have E := Lib.hid e
          clear e
          go_wp2_with fail
          go_ret
          exact ⟨one (vbool (by have := E.out; simp [this])), by first | exact below_drewN (Below.refl _ _) _ | (rw [World.drewN_drewN]; exact below_drewN (Below.refl _ _) _)⟩
  · have e : l ≠ l' := by rintro rfl; omega
    have hne : ((n : Int) == (n' : Int)) = false := by simp; omega
    clear h4 h4'
    go_enter Tryd.func7, Tryd.ntmps7
    go_wp2_with fail
    go_ret
    exact ⟨one (vbool (by simp [e])), Below.refl _ _⟩


/-- how many of the first i members are in yes -/
def cy (y : Int) (L : List Int) (i : Nat) : Nat := (L.take i).countP fun x => mem y x
theorem cy_succ (y : Int) (L : List Int) (i : Nat) (h : i < L.length) : cy y L (i + 1) = cy y L i + if mem y (L.getD i 0) = true then 1 else 0 := by
  unfold cy
  rw [List.take_succ_eq_append_getElem h, List.countP_append]
  have : L.getD i 0 = L[i] := by simp [h]
  rw [this]; by_cases hm : mem y L[i] = true <;> simp [hm]
theorem cy_le (y : Int) (L : List Int) (i : Nat) : cy y L i ≤ i := Nat.le_trans List.countP_le_length (by rw [List.length_take]; omega)
theorem quo_cy (c y : Int) : quoM c y = decide ((cntM c : Nat) < 2 * cy y (mlI c) (cntM c)) := by
  unfold quoM cy
  rw [List.take_of_length_le (by rw [mlI_len]; exact Nat.le_refl _)]
  unfold mlI LI
  rw [List.countP_map, B.countP_lsN]
  rfl

end Go.Proofs.YthbbiiegbddpdaaDoor.W
