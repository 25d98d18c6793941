/- PLAIN MATHEMATICS of layer 3 (sha), the second part: what stands behind a text, the sum on its way, a sum's bytes; no program. -/
import Derived.Test.YtagblhkihammdaaDoorShaP
namespace Go.Proofs.YtagblhkihammdaaDoor.P

/-! ### what stands behind a text -/
def zn (n : Nat) : Nat := (119 - n % 64) % 64
def be8 (m : Nat) : List UInt8 := (List.range 8).map fun i => UInt8.ofNat (m / 2 ^ (56 - 8 * i))
def padL (n : Nat) : List UInt8 := 128 :: (List.replicate (zn n) 0 ++ be8 (8 * n))
/-- a length as it is taken -/
def cl (n : Int) : Nat := if n < 0 then 0 else if 576460752303423488 < n then 576460752303423488 else n.toNat
theorem be8_len (m : Nat) : (be8 m).length = 8 := by simp [be8]
theorem padL_len (n : Nat) : (padL n).length = zn n + 9 := by simp [padL, be8_len]
theorem zn_lt (n : Nat) : zn n < 64 := Nat.mod_lt _ (by decide)
theorem padL_fill (n : Nat) : (n + (padL n).length) % 64 = 0 := by rw [padL_len, zn]; omega
theorem cl_le (n : Int) : cl n ≤ 576460752303423488 := by unfold cl; split <;> (try split) <;> omega
theorem cl_nat (n : Nat) (h : n ≤ 576460752303423488) : cl (n : Int) = n := by unfold cl; rw [if_neg (by omega), if_neg (by omega)]; simp

/-- the same, of which k of the last bytes are in -/
def pk (c k : Nat) : List UInt8 := 128 :: (List.replicate (zn c) 0 ++ ((be8 (8 * c)).take k ++ List.replicate (8 - k) 0))
theorem pk_len (c k : Nat) (hk : k ≤ 8) : (pk c k).length = zn c + 9 := by simp [pk, be8_len]; omega
theorem pk_zero (c : Nat) : (List.replicate (zn c + 9) (0 : UInt8)).set 0 128 = pk c 0 := by
  rw [pk, List.take_zero, List.nil_append, List.replicate_append_replicate, List.replicate_succ]; rfl
theorem pk_set (c k : Nat) (hk : k < 8) : (pk c k).set (1 + zn c + k) (UInt8.ofNat (8 * c / 2 ^ (56 - 8 * k))) = pk c (k + 1) := by
  unfold pk
  have e1 : 1 + zn c + k = (zn c + k) + 1 := by omega
  have e2 : ((be8 (8 * c)).take k).length = k := by simp [be8_len]; omega
  rw [e1, List.set_cons_succ, List.set_append_right _ _ (by simp), List.length_replicate, show zn c + k - zn c = k by omega, List.set_append_right _ _ (by omega), e2, Nat.sub_self,
    show 8 - k = (8 - (k + 1)) + 1 by omega, List.replicate_succ, List.set_cons_zero, List.take_succ_eq_append_getElem (by rw [be8_len]; omega), List.append_assoc]
  congr 3
  simp [be8]
theorem pk_full (c : Nat) : pk c 8 = padL c := by
  rw [pk, padL, List.take_of_length_le (by simp [be8_len])]; simp
theorem pk_get (c k : Nat) (hk : k < 8) : (pk c k).getD (1 + zn c + k) 0 = 0 := by
  unfold pk
  have e1 : 1 + zn c + k = (zn c + k) + 1 := by omega
  have e2 : ((be8 (8 * c)).take k).length = k := by simp [be8_len]; omega
  rw [e1, List.getD_cons_succ, List.getD_eq_getElem?_getD, List.getElem?_append_right (by simp), List.length_replicate, show zn c + k - zn c = k by omega, List.getElem?_append_right (by omega), e2, Nat.sub_self,
    show 8 - k = (8 - (k + 1)) + 1 by omega, List.replicate_succ]; rfl

theorem be8_snoc (c k : Nat) (hk : k < 8) : (be8 (8 * c)).take k ++ [UInt8.ofNat (8 * c / 2 ^ (56 - 8 * k))] = (be8 (8 * c)).take (k + 1) := by
  rw [List.take_succ_eq_append_getElem (by rw [be8_len]; omega)]; simp [be8]

/-! ### the sum on its way -/
/-- h behind the first k blocks of l -/
def hb (h : List UInt32) (l : List UInt8) : Nat → List UInt32
  | 0 => h
  | k + 1 => blk (hb h l k) ((l.drop (64 * k)).take 64)
theorem hb_len (h : List UInt32) (hh : h.length = 8) (l : List UInt8) : ∀ k, (hb h l k).length = 8
  | 0 => hh
  | k + 1 => blk_len _ _ (hb_len h hh l k)
/-- bytes behind do not count -/
theorem hb_append (h : List UInt32) (l x : List UInt8) : ∀ k, 64 * k ≤ l.length → hb h (l ++ x) k = hb h l k
  | 0, _ => rfl
  | k + 1, hk => by
    rw [hb, hb, hb_append h l x k (by omega), List.drop_append_of_le_length (by omega), List.take_append_of_le_length (by simp; omega)]
def H0 : List UInt32 := [0x6a09e667, 0xbb67ae85, 0x3c6ef372, 0xa54ff53a, 0x510e527f, 0x9b05688c, 0x1f83d9ab, 0x5be0cd19]
def be4 (x : UInt32) : List UInt8 := [UInt8.ofNat (x.toNat / 16777216), UInt8.ofNat (x.toNat / 65536), UInt8.ofNat (x.toNat / 256), UInt8.ofNat x.toNat]
def dig (h : List UInt32) : List UInt8 := h.flatMap be4
def full (l : List UInt8) : List UInt8 := l ++ padL l.length
/-- the sum of a text -/
def shaL (l : List UInt8) : List UInt8 := dig (hb H0 (full l) ((full l).length / 64))
theorem full_len (l : List UInt8) : (full l).length % 64 = 0 := by simp only [full, List.length_append]; exact padL_fill _
theorem dig_len (h : List UInt32) : (dig h).length = 4 * h.length := by
  induction h with
  | nil => rfl
  | cons x h ih => simp only [dig, List.flatMap_cons, List.length_append, List.length_cons] at *; rw [ih]; simp [be4]; omega
theorem shaL_len (l : List UInt8) : (shaL l).length = 32 := by rw [shaL, dig_len, hb_len _ (by rfl)]
theorem sha_nothing : shaL [] = [0xe3, 0xb0, 0xc4, 0x42, 0x98, 0xfc, 0x1c, 0x14, 0x9a, 0xfb, 0xf4, 0xc8, 0x99, 0x6f, 0xb9, 0x24, 0x27, 0xae, 0x41, 0xe4, 0x64, 0x9b, 0x93, 0x4c, 0xa4, 0x95, 0x99, 0x1b, 0x78, 0x52, 0xb8, 0x55] := by decide +kernel

/-! ### a sum on its way: its words and the block that is not yet full -/
structure St (l : List UInt8) (hs : List UInt32) (rest : List UInt8) : Prop where
  words : hs = hb H0 l (l.length / 64)
  len : rest.length = 64
  rest : rest.take (l.length % 64) = l.drop (64 * (l.length / 64))
theorem St.len8 {l : List UInt8} {hs : List UInt32} {rest : List UInt8} (h : St l hs rest) : hs.length = 8 := by rw [h.words]; exact hb_len _ rfl _ _
theorem St.zero : St [] H0 (List.replicate 64 0) := ⟨rfl, by simp, by simp⟩
/-- bytes y go in -/
def ins (rest : List UInt8) (r : Nat) (y : List UInt8) : List UInt8 := rest.take r ++ (y ++ rest.drop (r + y.length))
theorem ins_len (rest : List UInt8) (r : Nat) (y : List UInt8) (h : rest.length = 64) (hr : r + y.length ≤ 64) : (ins rest r y).length = 64 := by
  simp [ins, h]; omega
theorem St.part {l : List UInt8} {hs : List UInt32} {rest : List UInt8} (h : St l hs rest) (y : List UInt8) (hy : l.length % 64 + y.length < 64) : St (l ++ y) hs (ins rest (l.length % 64) y) := by
  have e1 : (l ++ y).length / 64 = l.length / 64 := by rw [List.length_append]; omega
  have e2 : (l ++ y).length % 64 = l.length % 64 + y.length := by rw [List.length_append]; omega
  refine ⟨?_, ins_len _ _ _ h.len (by omega), ?_⟩
  · rw [e1, hb_append _ _ _ _ (by omega)]; exact h.words
  · have ht : (rest.take (l.length % 64)).length = l.length % 64 := by simp [h.len]; omega
    rw [e1, e2, ins, List.take_append, List.take_of_length_le (by omega), ht, show l.length % 64 + y.length - l.length % 64 = y.length by omega, List.take_left', List.drop_append_of_le_length (by omega), h.rest]
    rfl
theorem St.fill {l : List UInt8} {hs : List UInt32} {rest : List UInt8} (h : St l hs rest) (y : List UInt8) (hy : l.length % 64 + y.length = 64) (_hp : 0 < y.length) : St (l ++ y) (blk hs (ins rest (l.length % 64) y)) (ins rest (l.length % 64) y) := by
  have e1 : (l ++ y).length / 64 = l.length / 64 + 1 := by rw [List.length_append]; omega
  have e2 : (l ++ y).length % 64 = 0 := by rw [List.length_append]; omega
  have ei : ins rest (l.length % 64) y = (l ++ y).drop (64 * (l.length / 64)) := by
    rw [ins, h.rest, show rest.drop (l.length % 64 + y.length) = [] from List.drop_eq_nil_of_le (by rw [h.len]; omega), List.append_nil, List.drop_append_of_le_length (by omega)]
  refine ⟨?_, ins_len _ _ _ h.len (by omega), ?_⟩
  · rw [e1, hb, hb_append _ _ _ _ (by omega), ← h.words, ← ei, List.take_of_length_le (by rw [ins_len _ _ _ h.len (by omega)]; omega)]
  · rw [e1, e2, List.take_zero, List.drop_eq_nil_of_le (by rw [List.length_append]; omega)]
/-- what is full is the sum -/
theorem St.sum {l : List UInt8} {hs : List UInt32} {rest : List UInt8} (h : St (full l) hs rest) : dig hs = shaL l := by rw [shaL, h.words]

theorem dig_cons (x : UInt32) (h : List UInt32) : dig (x :: h) = be4 x ++ dig h := rfl
theorem dig_get : ∀ (h : List UInt32) (q r : Nat), q < h.length → r < 4 → (dig h).getD (4 * q + r) 0 = UInt8.ofNat ((h.getD q 0).toNat / 2 ^ (24 - 8 * r))
  | x :: h, 0, r, _, hr => by
    rw [dig_cons, List.getD_eq_getElem?_getD, List.getElem?_append_left (by simp [be4]; omega)]
    have : r = 0 ∨ r = 1 ∨ r = 2 ∨ r = 3 := by omega
    rcases this with rfl | rfl | rfl | rfl <;> simp [be4]
  | x :: h, q + 1, r, hq, hr => by
    rw [dig_cons, List.getD_eq_getElem?_getD, List.getElem?_append_right (by simp [be4]; omega), ← List.getD_eq_getElem?_getD, show 4 * (q + 1) + r - (be4 x).length = 4 * q + r by simp [be4]; omega, dig_get h q r (by simpa using hq) hr]
    simp
/-- L, of which k bytes are in (of n) -/
def bz (L : List UInt8) (n k : Nat) : List UInt8 := L.take k ++ List.replicate (n - k) 0
theorem bz_len (L : List UInt8) (n k : Nat) (h : L.length = n) (hk : k ≤ n) : (bz L n k).length = n := by simp [bz, h]; omega
theorem bz_set (L : List UInt8) (n k : Nat) (h : L.length = n) (hk : k < n) : (bz L n k).set k (L.getD k 0) = bz L n (k + 1) := by
  unfold bz
  have e : (L.take k).length = k := by simp [h]; omega
  rw [List.set_append_right _ _ (by omega), e, Nat.sub_self, show n - k = (n - (k + 1)) + 1 by omega, List.replicate_succ, List.set_cons_zero, List.take_succ_eq_append_getElem (by omega), List.append_assoc]
  simp only [List.getD_eq_getElem?_getD, List.getElem?_eq_getElem (show k < L.length by omega), Option.getD_some, List.cons_append, List.nil_append]
theorem bz_zero (L : List UInt8) (n : Nat) : bz L n 0 = List.replicate n 0 := by simp [bz]
theorem bz_full (L : List UInt8) (n : Nat) (h : L.length = n) : bz L n n = L := by simp [bz]; exact List.take_of_length_le (by omega)
end Go.Proofs.YtagblhkihammdaaDoor.P
