/- CONTRACTS of layer 6 (caveat): what a caveat allows. CONTRACTS of layer 6 (caveat): what a caveat allows, the reference's. CONTRACTS of layer 6 (caveat): a caveat's bytes. PLAIN MATHEMATICS of layer 6 (caveat): caveats' bytes, there and back; no program. -/
import Derived.Test.YtjolmjbhpokgmaaGreatCavW4
import Derived.Test.YtjolmjbhpokgmaaGreatArr
import Derived.Test.YtjolmjbhpokgmaaGreatBitsP
import Derived.Test.YtjolmjbhpokgmaaGreatPackR5
set_option linter.unusedSimpArgs false
set_option linter.unusedVariables false
namespace Go.Proofs.YtjolmjbhpokgmaaGreat.W
open Go.ChangeShapes Go.WideShapes Go.ChangeAt Go.RowKit

def Dd.cells (d : Dd) : List Value := [.int .i64 d.action, .int .i64 d.time, .int .i64 d.client, .int .i64 d.bytes, .string d.space, .string d.snap]
def actV (a n : Int) : Bool := (decide (1 ≤ a) && decide (a ≤ 255)) && (bits .andNot .i64 a n == 0)
def holdsK (k n : Int) (s : ByteArray) (d : Dd) : Bool :=
  if k = 1 then actV d.action n else if k = 5 then d.client == n else if k = 2 then d.space.toList == s.toList else if k = 3 then d.snap.toList == s.toList else if k = 4 then decide (d.time ≤ n) else if k = 6 then decide (d.bytes ≤ n) else false
def holdsV (c : Cv) (d : Dd) : Bool := c.ok && holdsK c.kind c.num c.name d


theorem Row.c0 {w : World} {g : Nat} {t : TypeId} {a : Value} {L : List Value} (h : Row w g t (a :: L)) : w.cell? ⟨g, 0, none⟩ = some a := by rw [h.cellV]; rfl
theorem Row.c1 {w : World} {g : Nat} {t : TypeId} {a b : Value} {L : List Value} (h : Row w g t (a :: b :: L)) : w.cell? ⟨g, 1, none⟩ = some b := by rw [h.cellV]; rfl
theorem Row.c2 {w : World} {g : Nat} {t : TypeId} {a b c : Value} {L : List Value} (h : Row w g t (a :: b :: c :: L)) : w.cell? ⟨g, 2, none⟩ = some c := by rw [h.cellV]; rfl
theorem Row.c3 {w : World} {g : Nat} {t : TypeId} {a b c d : Value} {L : List Value} (h : Row w g t (a :: b :: c :: d :: L)) : w.cell? ⟨g, 3, none⟩ = some d := by rw [h.cellV]; rfl
theorem Row.c4 {w : World} {g : Nat} {t : TypeId} {a b c d e : Value} {L : List Value} (h : Row w g t (a :: b :: c :: d :: e :: L)) : w.cell? ⟨g, 4, none⟩ = some e := by rw [h.cellV]; rfl
theorem Row.c5 {w : World} {g : Nat} {t : TypeId} {a b c d e f : Value} {L : List Value} (h : Row w g t (a :: b :: c :: d :: e :: f :: L)) : w.cell? ⟨g, 5, none⟩ = some f := by rw [h.cellV]; rfl

theorem ok_in (c : Cv) (h : c.ok = true) : 1 ≤ c.kind ∧ c.kind ≤ 6 := by
  refine parts_in _ fun h0 => ?_
  unfold Cv.ok at h
  rw [h0] at h
  exact absurd h (by simp)
theorem T_ext {x y : Int} (x1 : -9223372036854775808 ≤ x) (x2 : x ≤ 9223372036854775807) (y1 : -9223372036854775808 ≤ y) (y2 : y ≤ 9223372036854775807) (h : ∀ k, B.T x k = B.T y k) : x = y := by
  have : B.U x = B.U y := Nat.eq_of_testBit_eq h
  rw [← B.wrapU x x1 x2, this, B.wrapU y y1 y2]
theorem act_eq (a n : Int) : ((decide (1 ≤ a) && decide (a ≤ 255)) && (bits .andNot .i64 a n == 0)) = ((decide (1 ≤ a) && decide (a ≤ 255)) && (bits .and .i64 a n == a)) := by
  by_cases h : 1 ≤ a ∧ a ≤ 255
  · have r1 := B.wrap_rng ((B.U a &&& B.U n : Nat) : Int)
    have r2 := B.wrap_rng ((B.U a &&& (18446744073709551615 - B.U n) : Nat) : Int)
    rw [← B.and_i64] at r1
    rw [← B.andNot_i64] at r2
    have t0 : ∀ k, B.T 0 k = false := fun k => by unfold B.T; rw [show B.U 0 = 0 from rfl, Nat.zero_testBit]
    congr 1
    rw [Bool.eq_iff_iff, beq_iff_eq, beq_iff_eq]
    constructor
    · intro h1
      refine T_ext r1.1 r1.2 (by omega) (by omega) fun k => ?_
      have h2 := B.T_andNot a n k
      rw [h1, t0] at h2
      rw [B.T_and]
      revert h2
      generalize B.T a k = p
      generalize B.T n k = q
      cases p <;> cases q <;> decide
    · intro h1
      refine T_ext r2.1 r2.2 (by omega) (by omega) fun k => ?_
      have h2 := B.T_and a n k
      rw [h1] at h2
      rw [B.T_andNot, t0]
      revert h2
      generalize B.T a k = p
      generalize B.T n k = q
      cases p <;> cases q <;> decide
  · have : (decide (1 ≤ a) && decide (a ≤ 255)) = false := by simp; omega
    rw [this, Bool.false_and, Bool.false_and]


end Go.Proofs.YtjolmjbhpokgmaaGreat.W

namespace Go.Proofs.YtjolmjbhpokgmaaGreat.W
open Go.ChangeShapes Go.WideShapes Go.ChangeAt Go.RowKit


end Go.Proofs.YtjolmjbhpokgmaaGreat.W

namespace Go.Proofs.YtjolmjbhpokgmaaGreat.W
open Go.ChangeShapes Go.WideShapes Go.ChangeAt Go.RowKit
open Go.Proofs.YtjolmjbhpokgmaaGreat.P (enc)


/-- a caveat's bytes, if it may be -/
def tailL (p n : Int) (s : ByteArray) : List UInt8 := if p = 2 then enc s.size ++ s.data.toList else enc n.toNat
def putL (c : Cv) : List UInt8 := enc c.kind.toNat ++ tailL (partsV c.kind) c.num c.name
theorem name_short (s : ByteArray) (h : nameV s = true) : s.size ≤ 16 := by
  unfold nameV nameL at h
  simp at h
  exact h.2.1
theorem ok_two (c : Cv) (h : c.ok = true) (hp : partsV c.kind = 2) : nameV c.name = true := by
  unfold Cv.ok at h
  rw [hp] at h
  simp [fitsV] at h
  exact h.2


end Go.Proofs.YtjolmjbhpokgmaaGreat.W

namespace Go.Proofs.YtjolmjbhpokgmaaGreat.W
open Go.Proofs.YtjolmjbhpokgmaaGreat.P (enc dec)

theorem num_enc (most : Int) (n : Nat) (t : List UInt8) (hn : n < 9223372036854775808) (hm : ¬ most < (n : Int)) : numR most (enc n ++ t) 0 = (n, t, 0) := by
  have h := P.dec_enc n hn t
  rw [numR_ok (by rw [h]) (by rw [h]; exact hm), h]
  simp
theorem text_enc (most : Int) (s : ByteArray) (t : List UInt8) (hn : s.size < 9223372036854775808) (hm : ¬ most < (s.size : Int)) : textR most (enc s.size ++ (s.data.toList ++ t)) 0 = (s.data.toList, t, 0) := by
  have h := num_enc most s.size (s.data.toList ++ t) hn hm
  unfold textR
  rw [h]
  have hl : s.data.toList.length = s.size := by simp
  simp only
  rw [if_neg (by simp), if_neg (by simp), List.take_left' hl, List.drop_left' hl]
theorem num_back (most : Int) (l : List UInt8) (h : (numR most l 0).2.2 = 0) : enc (numR most l 0).1 ++ (numR most l 0).2.1 = l ∧ ((numR most l 0).1 : Int) ≤ most := by
  by_cases h1 : (dec 9 0 0 l).2.2 = 0
  · by_cases h2 : most < ((dec 9 0 0 l).1 : Int)
    · rw [numR_long h1 h2] at h; simp at h
    · rw [numR_ok h1 h2]
      simp only
      rw [P.enc_dec9 l h1, List.take_append_drop]
      exact ⟨rfl, by omega⟩
  · rw [numR_bad h1] at h; exact absurd h h1
theorem text_back (most : Int) (l : List UInt8) (h : (textR most l 0).2.2 = 0) : enc (textR most l 0).1.length ++ ((textR most l 0).1 ++ (textR most l 0).2.1) = l ∧ ((textR most l 0).1.length : Int) ≤ most := by
  unfold textR at h ⊢
  by_cases h1 : (numR most l 0).2.2 = 0
  · obtain ⟨b1, b2⟩ := num_back most l h1
    by_cases h2 : (numR most l 0).2.1.length < (numR most l 0).1
    · rw [if_neg (by simp [h1]), if_pos h2] at h; simp at h
    · rw [if_neg (by simp [h1]), if_neg h2]
      simp only
      rw [List.take_append_drop, List.length_take, Nat.min_eq_left (by omega)]
      exact ⟨b1, b2⟩
  · rw [if_pos h1] at h; exact absurd h h1

/-- the bytes that a caveat has: none, if it may not be -/
def putA (c : Cv) : List UInt8 := if c.ok then putL c else []
def codeL (L : List Cv) : List UInt8 := enc L.length ++ L.flatMap putA

/-- what reading a caveat answers: it, what is left, the error -/
def readK (k : Int) (l : List UInt8) : Cv × List UInt8 × Int :=
  if partsV k = 2 then
    if (textR 16 l 0).2.2 ≠ 0 then (default, (textR 16 l 0).2.1, (textR 16 l 0).2.2)
    else if nameV (str (textR 16 l 0).1) = true then (⟨k, 0, str (textR 16 l 0).1⟩, (textR 16 l 0).2.1, 0) else (default, [], 3)
  else if partsV k = 1 then
    if (numR (mostV k) l 0).2.2 ≠ 0 then (default, (numR (mostV k) l 0).2.1, (numR (mostV k) l 0).2.2)
    else (⟨k, ((numR (mostV k) l 0).1 : Int), ByteArray.empty⟩, (numR (mostV k) l 0).2.1, 0)
  else (default, [], 3)
def readS (l : List UInt8) (e : Int) : Cv × List UInt8 × Int :=
  if (numR 6 l e).2.2 ≠ 0 then (default, (numR 6 l e).2.1, (numR 6 l e).2.2) else readK ((numR 6 l e).1 : Int) (numR 6 l e).2.1
theorem readS_err {l : List UInt8} {e : Int} (h : e ≠ 0) : readS l e = (default, l, e) := by
  unfold readS; rw [numR_err h, if_pos h]
theorem most_pos (k : Int) : 0 ≤ mostV k ∧ mostV k ≤ 1099511627776 := by
  unfold mostV; split
  · omega
  · split
    · omega
    · split <;> omega
theorem cv_zero_fit : (default : Cv).fit := ⟨by decide, by decide, by decide⟩
theorem cv_fit_of (k n : Int) (s : ByteArray) (h1 : -9223372036854775808 ≤ k) (h2 : k ≤ 9223372036854775807) (h3 : -9223372036854775808 ≤ n) (h4 : n ≤ 9223372036854775807) (h5 : s.size ≤ maxLen) : (⟨k, n, s⟩ : Cv).fit := ⟨⟨h1, h2⟩, ⟨h3, h4⟩, h5⟩
theorem str_len (l : List UInt8) : (str l).size = l.length := rfl

theorem readS_fit (l : List UInt8) (e : Int) : (readS l e).1.fit := by
  unfold readS
  split
  · exact cv_zero_fit
  · rename_i h0
    have he : e = 0 := by
      by_cases he : e = 0
      · exact he
      · rw [numR_err he] at h0; exact absurd he h0
    subst he
    have hk := (num_back 6 l (by simpa using h0)).2
    generalize (numR 6 l 0).1 = k at *
    generalize (numR 6 l 0).2.1 = l' at *
    unfold readK
    split
    · split
      · exact cv_zero_fit
      · rename_i h1
        split
        · have := (text_back 16 l' (by simpa using h1)).2
          refine cv_fit_of _ _ _ (by omega) (by omega) (by omega) (by omega) ?_
          simp only [str_len, maxLen]; omega
        · exact cv_zero_fit
    · split
      · split
        · exact cv_zero_fit
        · rename_i h1
          have := (num_back (mostV (k : Int)) l' (by simpa using h1)).2
          have hm := most_pos (k : Int)
          exact cv_fit_of _ _ _ (by omega) (by omega) (by omega) (by omega) (by decide)
      · exact cv_zero_fit

theorem ok_parts {c : Cv} (h : c.ok = true) : partsV c.kind = 1 ∨ partsV c.kind = 2 := by
  unfold Cv.ok at h
  simp at h
  have h1 := h.1
  unfold partsV at h1 ⊢
  split
  · left; rfl
  · rename_i h2
    rw [if_neg h2] at h1
    split
    · right; rfl
    · rename_i h3; rw [if_neg h3] at h1; exact absurd rfl h1
theorem ok_kind {c : Cv} (h : c.ok = true) : 1 ≤ c.kind ∧ c.kind ≤ 6 := by
  rcases parts_any c.kind with h1 | h1 | h1 | h1 | h1 | h1 | h1
  all_goals try omega
  have h2 := ok_parts h
  omega
theorem ok_num {c : Cv} (h : c.ok = true) : 0 ≤ c.num ∧ c.num ≤ mostV c.kind := by
  unfold Cv.ok at h
  simp at h
  exact h.2.1
theorem ok_fits {c : Cv} (h : c.ok = true) : fitsV (partsV c.kind) c.name = true := by
  unfold Cv.ok at h
  simp at h
  exact h.2.2
theorem mostTwo {k : Int} (h : partsV k = 2) : mostV k = 0 := by
  rcases parts_any k with h1 | h1 | h1 | h1 | h1 | h1 | h1 <;> omega
theorem empty_of {s : ByteArray} (h : s.toList.isEmpty = true) : s = ByteArray.empty := by
  have h1 : s.data.toList = [] := by
    rw [ByteArray.toList_eq] at h
    exact List.isEmpty_iff.1 h
  cases s with | mk d => simp at h1; subst h1; rfl

/-- THERE AND BACK: a caveat that may be is read of its bytes -/
theorem read_put (c : Cv) (hok : c.ok = true) (hf : c.fit) (t : List UInt8) : readS (putL c ++ t) 0 = (c, t, 0) := by
  obtain ⟨k1, k2⟩ := ok_kind hok
  obtain ⟨n1, n2⟩ := ok_num hok
  have hft := ok_fits hok
  have hp := ok_parts hok
  obtain ⟨kind, num, name⟩ := c
  simp only at *
  have hkn : ((kind.toNat : Nat) : Int) = kind := by omega
  unfold putL readS
  simp only
  rw [List.append_assoc, num_enc 6 kind.toNat _ (by omega) (by omega), if_neg (by simp)]
  simp only [hkn]
  unfold readK tailL
  rcases hp with hp | hp
  · rw [hp] at hft ⊢
    simp only [show ((1 : Int) = 2) = False by simp, if_true, if_false]
    have hm := most_pos kind
    rw [num_enc (mostV kind) num.toNat t (by omega) (by omega), if_neg (by simp)]
    simp only
    have hnn : ((num.toNat : Nat) : Int) = num := by omega
    have hne : name = ByteArray.empty := empty_of (by unfold fitsV at hft; rw [if_neg (by decide)] at hft; exact hft)
    rw [hnn, hne]
  · rw [hp] at hft ⊢
    rw [if_pos rfl, if_pos rfl]
    have hnm : nameV name = true := by unfold fitsV at hft; rw [if_pos rfl] at hft; exact hft
    have hs := name_short name hnm
    rw [List.append_assoc, text_enc 16 name t (by omega) (by omega), if_neg (by simp)]
    simp only
    have e : str name.data.toList = name := rfl
    rw [e, if_pos hnm]
    have := mostTwo hp
    have : num = 0 := by omega
    rw [this]

/-- BACK AND THERE: what was read has just the bytes that were taken -/
theorem read_back (l : List UInt8) (h : (readS l 0).2.2 = 0) : (readS l 0).1.ok = true ∧ putL (readS l 0).1 ++ (readS l 0).2.1 = l := by
  unfold readS at h ⊢
  by_cases h0 : (numR 6 l 0).2.2 = 0
  · rw [if_neg (by simp [h0])] at h ⊢
    obtain ⟨b1, b2⟩ := num_back 6 l h0
    generalize (numR 6 l 0).1 = k at *
    generalize (numR 6 l 0).2.1 = l' at *
    unfold readK at h ⊢
    by_cases p2 : partsV (k : Int) = 2
    · rw [if_pos p2] at h ⊢
      by_cases h1 : (textR 16 l' 0).2.2 = 0
      · rw [if_neg (by simp [h1])] at h ⊢
        obtain ⟨c1, c2⟩ := text_back 16 l' h1
        generalize (textR 16 l' 0).1 = s at *
        generalize (textR 16 l' 0).2.1 = l2 at *
        by_cases h2 : nameV (str s) = true
        · rw [if_pos h2] at h ⊢
          simp only
          refine ⟨?_, ?_⟩
          · unfold Cv.ok fitsV
            simp only [p2]
            have := most_pos (k : Int)
            simp [h2, this.1]
          · unfold putL tailL
            simp only [p2, if_true]
            rw [List.append_assoc, List.append_assoc, show (str s).data.toList = s from rfl, str_len, c1]
            rw [Int.toNat_natCast]
            exact b1
        · rw [if_neg h2] at h; simp at h
      · rw [if_pos h1] at h; exact absurd h h1
    · rw [if_neg p2] at h ⊢
      by_cases p1 : partsV (k : Int) = 1
      · rw [if_pos p1] at h ⊢
        by_cases h1 : (numR (mostV (k : Int)) l' 0).2.2 = 0
        · rw [if_neg (by simp [h1])] at h ⊢
          obtain ⟨c1, c2⟩ := num_back (mostV (k : Int)) l' h1
          generalize (numR (mostV (k : Int)) l' 0).1 = n at *
          generalize (numR (mostV (k : Int)) l' 0).2.1 = l2 at *
          simp only
          refine ⟨?_, ?_⟩
          · unfold Cv.ok fitsV
            simp only [p1]
            simp [c2]
          · unfold putL tailL
            simp only [p1]
            rw [if_neg (by decide), List.append_assoc, Int.toNat_natCast, Int.toNat_natCast, c1]
            exact b1
        · rw [if_pos h1] at h; exact absurd h h1
      · rw [if_neg p1] at h; simp at h
  · rw [if_pos h0] at h; exact absurd h h0
theorem putA_ok {c : Cv} (h : c.ok = true) : putA c = putL c := by unfold putA; rw [if_pos h]

/-! ### lists -/
/-- what reading n caveats answers, one behind the other -/
def rdN : Nat → List UInt8 → Int → List Cv × List UInt8 × Int
  | 0, l, e => ([], l, e)
  | n + 1, l, e => ((rdN n l e).1 ++ [(readS (rdN n l e).2.1 (rdN n l e).2.2).1], (readS (rdN n l e).2.1 (rdN n l e).2.2).2)
theorem rdN_len (l : List UInt8) (e : Int) : ∀ n, (rdN n l e).1.length = n
  | 0 => rfl
  | n + 1 => by simp [rdN, rdN_len l e n]
theorem rdN_fit (l : List UInt8) (e : Int) : ∀ n, ∀ c ∈ (rdN n l e).1, c.fit
  | 0, c, h => by simp [rdN] at h
  | n + 1, c, h => by
    simp [rdN] at h
    rcases h with h | rfl
    · exact rdN_fit l e n c h
    · exact readS_fit _ _
theorem rdN_stuck (l : List UInt8) (e : Int) (m : Nat) (h : (rdN m l e).2.2 ≠ 0) : ∀ k, (rdN (m + k) l e).2 = (rdN m l e).2
  | 0 => rfl
  | k + 1 => by
    have ih := rdN_stuck l e m h k
    rw [show m + (k + 1) = (m + k) + 1 by omega]
    simp only [rdN]
    rw [ih, readS_err h]
def parseV (b : List UInt8) : List Cv × Int :=
  if endV (rdN (numR 8 b 0).1 (numR 8 b 0).2.1 (numR 8 b 0).2.2).2.1 (rdN (numR 8 b 0).1 (numR 8 b 0).2.1 (numR 8 b 0).2.2).2.2 ≠ 0 then
    ([], endV (rdN (numR 8 b 0).1 (numR 8 b 0).2.1 (numR 8 b 0).2.2).2.1 (rdN (numR 8 b 0).1 (numR 8 b 0).2.1 (numR 8 b 0).2.2).2.2)
  else ((rdN (numR 8 b 0).1 (numR 8 b 0).2.1 (numR 8 b 0).2.2).1, 0)

theorem rdN_put (L : List Cv) (hL : ∀ c ∈ L, c.ok = true ∧ c.fit) (t : List UInt8) : ∀ n, n ≤ L.length → rdN n (L.flatMap putA ++ t) 0 = (L.take n, (L.drop n).flatMap putA ++ t, 0)
  | 0, _ => rfl
  | n + 1, h => by
    have hn : n < L.length := by omega
    have ih := rdN_put L hL t n (by omega)
    simp only [rdN]
    rw [ih]
    simp only
    have hd : L.drop n = L[n] :: L.drop (n + 1) := List.drop_eq_getElem_cons hn
    obtain ⟨h1, h2⟩ := hL L[n] (List.getElem_mem hn)
    rw [hd, List.flatMap_cons, putA_ok h1, List.append_assoc, read_put _ h1 h2, List.take_succ_eq_append_getElem hn]
theorem rdN_all (L : List Cv) (hL : ∀ c ∈ L, c.ok = true ∧ c.fit) (t : List UInt8) : rdN L.length (L.flatMap putA ++ t) 0 = (L, t, 0) := by
  rw [rdN_put L hL t _ (Nat.le_refl _)]; simp
theorem rdN_back (l : List UInt8) : ∀ n, (rdN n l 0).2.2 = 0 → (∀ c ∈ (rdN n l 0).1, c.ok = true) ∧ (rdN n l 0).1.flatMap putA ++ (rdN n l 0).2.1 = l
  | 0, _ => ⟨fun c h => by simp [rdN] at h, rfl⟩
  | n + 1, h => by
    have h0 : (rdN n l 0).2.2 = 0 := by
      by_cases h1 : (rdN n l 0).2.2 = 0
      · exact h1
      · simp only [rdN] at h
        rw [readS_err h1] at h; exact absurd h h1
    obtain ⟨i1, i2⟩ := rdN_back l n h0
    simp only [rdN] at h ⊢
    rw [h0] at h ⊢
    obtain ⟨r1, r2⟩ := read_back _ h
    refine ⟨fun c hc => ?_, ?_⟩
    · rcases List.mem_append.1 hc with hc | hc
      · exact i1 c hc
      · simp at hc; rw [hc]; exact r1
    · rw [List.flatMap_append, List.flatMap_cons, List.flatMap_nil, List.append_nil, putA_ok r1, List.append_assoc, r2]
      exact i2
theorem endV_zero {l : List UInt8} {e : Int} (h : endV l e = 0) : e = 0 ∧ l = [] := by
  unfold endV at h
  by_cases he : e = 0
  · rw [if_neg (by simp [he])] at h
    by_cases hl : l.length = 0
    · exact ⟨he, List.eq_nil_of_length_eq_zero hl⟩
    · rw [if_neg hl] at h; simp at h
  · rw [if_pos he] at h; exact absurd h he
theorem parse_code (L : List Cv) (hL : ∀ c ∈ L, c.ok = true ∧ c.fit) (h8 : L.length ≤ 8) : parseV (codeL L) = (L, 0) := by
  have h1 : numR 8 (codeL L) 0 = (L.length, L.flatMap putA, 0) := num_enc 8 L.length _ (by omega) (by omega)
  have h2 := rdN_all L hL []
  rw [List.append_nil] at h2
  unfold parseV
  rw [h1]
  simp only [h2]
  rfl
theorem code_parse (b : List UInt8) (h : (parseV b).2 = 0) : codeL (parseV b).1 = b := by
  unfold parseV at h ⊢
  by_cases he : endV (rdN (numR 8 b 0).1 (numR 8 b 0).2.1 (numR 8 b 0).2.2).2.1 (rdN (numR 8 b 0).1 (numR 8 b 0).2.1 (numR 8 b 0).2.2).2.2 = 0
  · rw [if_neg (by simp [he])]
    obtain ⟨e1, e2⟩ := endV_zero he
    have h0 : (numR 8 b 0).2.2 = 0 := by
      by_cases h1 : (numR 8 b 0).2.2 = 0
      · exact h1
      · have := rdN_stuck (numR 8 b 0).2.1 (numR 8 b 0).2.2 0 h1 (numR 8 b 0).1
        rw [Nat.zero_add] at this
        rw [this] at e1
        exact absurd e1 h1
    rw [h0] at e1 e2 ⊢
    obtain ⟨-, r2⟩ := rdN_back (numR 8 b 0).2.1 _ e1
    rw [e2, List.append_nil] at r2
    simp only
    unfold codeL
    rw [rdN_len, r2]
    exact (num_back 8 b h0).1
  · rw [if_pos he] at h; exact absurd h he
theorem parse_fit (b : List UInt8) : ∀ c ∈ (parseV b).1, c.fit := by
  unfold parseV
  split
  · intro c h; simp at h
  · exact rdN_fit _ _ _
theorem parse_len (b : List UInt8) : (parseV b).1.length ≤ 8 := by
  unfold parseV
  split
  · simp
  · simp only [rdN_len]
    by_cases h0 : (numR 8 b 0).2.2 = 0
    · have := (num_back 8 b h0).2; omega
    · unfold numR at h0 ⊢
      rw [if_neg (by simp)] at h0 ⊢
      split
      · simp
      · rename_i h1
        rw [if_neg h1] at h0
        split
        · simp
        · rename_i h2; rw [if_neg h2] at h0; simp at h0
end Go.Proofs.YtjolmjbhpokgmaaGreat.W
