/- PLAIN MATHEMATICS of layer 3 (sha): words, a block's words, rounds, what stands behind a text, a text's sum; no program. PLAIN MATHEMATICS of layer 3 (sha), the second part: what stands behind a text, the sum on its way, a sum's bytes; no program. -/
import Derived.Laws.BitsAllLaws
set_option linter.unusedSimpArgs false
set_option linter.unusedVariables false
namespace Go.Proofs.YtkfhppbmnjmnoaaGreatDoor.P

def shr (x : UInt32) (n : Nat) : UInt32 := UInt32.ofNat (x.toNat / 2 ^ n)
def shl (x : UInt32) (n : Nat) : UInt32 := UInt32.ofNat (x.toNat * 2 ^ n)
def rot (x : UInt32) (n : Nat) : UInt32 := shl x (32 - n) ||| shr x n
def sA (x : UInt32) : UInt32 := rot x 7 ^^^ rot x 18 ^^^ shr x 3
def sB (x : UInt32) : UInt32 := rot x 17 ^^^ rot x 19 ^^^ shr x 10
def bA (x : UInt32) : UInt32 := rot x 2 ^^^ rot x 13 ^^^ rot x 22
def bB (x : UInt32) : UInt32 := rot x 6 ^^^ rot x 11 ^^^ rot x 25
def ch (x y z : UInt32) : UInt32 := (x &&& y) ^^^ (~~~x &&& z)
def maj (x y z : UInt32) : UInt32 := (x &&& y) ^^^ (x &&& z) ^^^ (y &&& z)

/-- integers of words -/
theorem lt32 (x : UInt32) : x.toNat < 4294967296 := x.toNat_lt
theorem i_xor (x y : UInt32) : bits .xor .u32 (x.toNat : Int) (y.toNat : Int) = ((x ^^^ y).toNat : Int) := by
  rw [u32_xor_nat _ _ (lt32 x) (lt32 y), UInt32.toNat_xor]
theorem i_or (x y : UInt32) : bits .or .u32 (x.toNat : Int) (y.toNat : Int) = ((x ||| y).toNat : Int) := by
  rw [u32_or_nat _ _ (lt32 x) (lt32 y), UInt32.toNat_or]
theorem i_and (x y : UInt32) : bits .and .u32 (x.toNat : Int) (y.toNat : Int) = ((x &&& y).toNat : Int) := by
  rw [u32_and_nat _ _ (lt32 x) (lt32 y), UInt32.toNat_and]
theorem i_add (x y : UInt32) : IntKind.u32.wrap ((x.toNat : Int) + (y.toNat : Int)) = ((x + y).toNat : Int) := by
  rw [IntKind.wrap_u32', UInt32.toNat_add]; omega
theorem i_not (x : UInt32) : bits .xor .u32 4294967295 (x.toNat : Int) = ((~~~x).toNat : Int) := by
  rw [show (4294967295 : Int) = ((4294967295 : UInt32).toNat : Int) from rfl, i_xor]
  have : (4294967295 : UInt32) ^^^ x = ~~~x := by
    apply UInt32.toBitVec_inj.1
    rw [UInt32.toBitVec_xor, UInt32.toBitVec_not]
    exact BitVec.allOnes_xor
  rw [this]
theorem i_shr (x : UInt32) (n : Nat) : (x.toNat : Int) / 2 ^ n = ((shr x n).toNat : Int) := by
  unfold shr
  rw [UInt32.toNat_ofNat_of_lt' (Nat.lt_of_le_of_lt (Nat.div_le_self _ _) (lt32 x)), Int.natCast_ediv, Int.natCast_pow]
  rfl
theorem i_shl (x : UInt32) (n : Nat) : IntKind.u32.wrap ((x.toNat : Int) * 2 ^ n) = ((shl x n).toNat : Int) := by
  unfold shl
  rw [IntKind.wrap_u32', UInt32.toNat_ofNat', Int.natCast_emod, Int.natCast_mul, Int.natCast_pow]
  rfl

/-! ### a block's words -/
/-- the number that c bytes from s on make, the highest first -/
def acc (b : List UInt8) (s : Nat) : Nat → Nat
  | 0 => 0
  | c + 1 => acc b s c * 256 + (b.getD (s + c) 0).toNat
theorem acc_lt (b : List UInt8) (s : Nat) : ∀ c, acc b s c < 256 ^ c
  | 0 => by simp [acc]
  | c + 1 => by
    have h := acc_lt b s c
    have h2 := (b.getD (s + c) 0).toNat_lt
    simp only [acc, Nat.pow_succ]
    omega
def words16 (b : List UInt8) : List UInt32 := (List.range 16).map fun j => UInt32.ofNat (acc b (4 * j) 4)
/-- the words of which i bytes are in -/
def pw (b : List UInt8) (i : Nat) : List UInt32 := (List.range 16).map fun j => UInt32.ofNat (acc b (4 * j) (min (i - 4 * j) 4))
theorem pw_len (b : List UInt8) (i : Nat) : (pw b i).length = 16 := by simp [pw]
theorem pw_zero (b : List UInt8) : pw b 0 = List.replicate 16 0 := by
  unfold pw
  simp only [Nat.zero_sub, Nat.zero_min, acc]
  decide
theorem pw_full (b : List UInt8) : pw b 64 = words16 b := by
  unfold pw words16
  apply List.map_congr_left
  intro j hj
  have := List.mem_range.1 hj
  rw [show min (64 - 4 * j) 4 = 4 by omega]
theorem pw_get (b : List UInt8) (q r : Nat) (hq : q < 16) (hr : r < 4) : (pw b (4 * q + r)).getD q 0 = UInt32.ofNat (acc b (4 * q) r) := by
  unfold pw
  simp [hq, show min r 4 = r by omega]
theorem pw_set (b : List UInt8) (q r : Nat) (hr : r < 4) : (pw b (4 * q + r)).set q (UInt32.ofNat (acc b (4 * q) (r + 1))) = pw b (4 * q + r + 1) := by
  apply List.ext_getElem
  · simp [pw]
  · intro j h1 h2
    have hj : j < 16 := by simpa [pw] using h2
    rw [List.getElem_set]
    by_cases e : q = j
    · subst e
      simp [pw, show min (r + 1) 4 = r + 1 by omega, show 4 * q + r + 1 - 4 * q = r + 1 by omega]
    · rw [if_neg e]
      simp only [pw, List.getElem_map, List.getElem_range]
      congr 2
      omega
theorem byte_in (x : Nat) (b : UInt8) (hx : x < 16777216) : bits .or .u32 (IntKind.u32.wrap (((UInt32.ofNat x).toNat : Int) * 256)) (b.toNat : Int) = ((UInt32.ofNat (x * 256 + b.toNat)).toNat : Int) := by
  have hb := b.toNat_lt
  rw [IntKind.wrap_u32', UInt32.toNat_ofNat_of_lt' (show x < 4294967296 by omega), UInt32.toNat_ofNat_of_lt' (show x * 256 + b.toNat < 4294967296 by omega)]
  have e : ((x : Int) * 256) % 4294967296 = ((x * 256 : Nat) : Int) := by omega
  rw [e, u32_or_nat _ _ (by omega) (by omega), nat_join 8 _ _ (by omega) (by omega)]

/-! ### the words of the rounds -/
def nw (L : List UInt32) (n : Nat) : UInt32 := sB (L.getD (n + 14) 0) + L.getD (n + 9) 0 + sA (L.getD (n + 1) 0) + L.getD n 0
/-- k words more -/
def wl (m : List UInt32) : Nat → List UInt32
  | 0 => m
  | k + 1 => wl m k ++ [nw (wl m k) k]
theorem wl_len (m : List UInt32) (hm : m.length = 16) : ∀ k, (wl m k).length = 16 + k
  | 0 => hm
  | k + 1 => by simp [wl, wl_len m hm k]; omega
theorem wl_get (m : List UInt32) (hm : m.length = 16) (k i : Nat) (hi : i < 16 + k) : ∀ j, (wl m (k + j)).getD i 0 = (wl m k).getD i 0
  | 0 => rfl
  | j + 1 => by
    rw [← wl_get m hm k i hi j, ← Nat.add_assoc, wl, List.getD_eq_getElem?_getD, List.getElem?_append_left (by rw [wl_len m hm]; omega), ← List.getD_eq_getElem?_getD]
theorem wl_same (m : List UInt32) (hm : m.length = 16) (k j i : Nat) (hi : i < 16 + k) (hj : i < 16 + j) : (wl m k).getD i 0 = (wl m j).getD i 0 := by
  rcases Nat.le_total k j with h | h
  · rw [← wl_get m hm k i hi (j - k), show k + (j - k) = j by omega]
  · rw [← wl_get m hm j i hj (k - j), show j + (k - j) = k by omega]
theorem wl_new (m : List UInt32) (hm : m.length = 16) (k : Nat) : (wl m (k + 1)).getD (16 + k) 0 = nw (wl m k) k := by
  rw [wl, List.getD_eq_getElem?_getD, List.getElem?_append_right (by rw [wl_len m hm]; omega), wl_len m hm]; simp
/-- the sixty-four -/
def ws (b : List UInt8) : List UInt32 := wl (words16 b) 48
theorem words16_len (b : List UInt8) : (words16 b).length = 16 := by simp [words16]
theorem ws_len (b : List UInt8) : (ws b).length = 64 := by rw [ws, wl_len _ (words16_len b)]
theorem ws_low (b : List UInt8) (i : Nat) (hi : i < 16) : (ws b).getD i 0 = UInt32.ofNat (acc b (4 * i) 4) := by
  rw [ws, wl_same _ (words16_len b) 48 0 i (by omega) (by omega), wl]
  simp [words16, hi]
theorem ws_high (b : List UInt8) (i : Nat) (h1 : 16 ≤ i) (h2 : i < 64) : (ws b).getD i 0 = sB ((ws b).getD (i - 2) 0) + (ws b).getD (i - 7) 0 + sA ((ws b).getD (i - 15) 0) + (ws b).getD (i - 16) 0 := by
  obtain ⟨k, rfl⟩ : ∃ k, i = 16 + k := ⟨i - 16, by omega⟩
  have hm := words16_len b
  have e := wl_new (words16 b) hm k
  rw [nw] at e
  have q : ∀ j, j < 16 + k → (wl (words16 b) k).getD j 0 = (ws b).getD j 0 := fun j hj => wl_same _ hm k 48 j hj (by omega)
  rw [q _ (by omega), q _ (by omega), q _ (by omega), q _ (by omega)] at e
  rw [show 16 + k - 2 = k + 14 by omega, show 16 + k - 7 = k + 9 by omega, show 16 + k - 15 = k + 1 by omega, show 16 + k - 16 = k by omega, ← e]
  exact wl_same _ hm 48 (k + 1) _ (by omega) (by omega)
def nx (m : List UInt32) : List UInt32 := m.drop 1 ++ [sB (m.getD 14 0) + m.getD 9 0 + sA (m.getD 1 0) + m.getD 0 0]
/-- the sixteen of round k -/
def win (b : List UInt8) (k : Nat) : List UInt32 := (wl (words16 b) k).drop k
theorem win_len (b : List UInt8) (k : Nat) : (win b k).length = 16 := by simp [win, wl_len _ (words16_len b)]
theorem win_zero (b : List UInt8) : win b 0 = words16 b := rfl
theorem win_get (b : List UInt8) (k : Nat) (hk : k < 64) : (win b k).getD 0 0 = (ws b).getD k 0 := by
  rw [win, ws, wl_same _ (words16_len b) 48 k k (by omega) (by omega)]
  simp only [List.getD_eq_getElem?_getD, List.getElem?_drop, Nat.add_zero]
theorem win_next (b : List UInt8) (k : Nat) : nx (win b k) = win b (k + 1) := by
  unfold win nx
  rw [wl, List.drop_append_of_le_length (by rw [wl_len _ (words16_len b)]; omega), List.drop_drop]
  rw [nw]
  simp only [List.getD_eq_getElem?_getD, List.getElem?_drop, Nat.add_zero]

/-! ### rounds -/
structure S8 where
  (p q r s t u v w : UInt32)
def S8.list (x : S8) : List UInt32 := [x.p, x.q, x.r, x.s, x.t, x.u, x.v, x.w]
def sOf (h : List UInt32) : S8 := ⟨h.getD 0 0, h.getD 1 0, h.getD 2 0, h.getD 3 0, h.getD 4 0, h.getD 5 0, h.getD 6 0, h.getD 7 0⟩
def rX (x : S8) (k w : UInt32) : UInt32 := x.w + bB x.t + ch x.t x.u x.v + k + w
def rY (x : S8) : UInt32 := bA x.p + maj x.p x.q x.r
def rnd (x : S8) (k w : UInt32) : S8 := ⟨rX x k w + rY x, x.p, x.q, x.r, x.s + rX x k w, x.t, x.u, x.v⟩
def Kc : List UInt32 := [1116352408, 1899447441, 3049323471, 3921009573, 961987163, 1508970993, 2453635748, 2870763221, 3624381080, 310598401, 607225278, 1426881987, 1925078388, 2162078206, 2614888103, 3248222580, 3835390401, 4022224774, 264347078, 604807628, 770255983, 1249150122, 1555081692, 1996064986, 2554220882, 2821834349, 2952996808, 3210313671, 3336571891, 3584528711, 113926993, 338241895, 666307205, 773529912, 1294757372, 1396182291, 1695183700, 1986661051, 2177026350, 2456956037, 2730485921, 2820302411, 3259730800, 3345764771, 3516065817, 3600352804, 4094571909, 275423344, 430227734, 506948616, 659060556, 883997877, 958139571, 1322822218, 1537002063, 1747873779, 1955562222, 2024104815, 2227730452, 2361852424, 2428436474, 2756734187, 3204031479, 3329325298]
/-- the state behind i rounds -/
def rs (h : List UInt32) (b : List UInt8) : Nat → S8
  | 0 => sOf h
  | i + 1 => rnd (rs h b i) (Kc.getD i 0) ((ws b).getD i 0)
def blk (h : List UInt32) (b : List UInt8) : List UInt32 := List.zipWith (· + ·) h (rs h b 64).list
theorem blk_len (h : List UInt32) (b : List UInt8) (hh : h.length = 8) : (blk h b).length = 8 := by simp [blk, hh, S8.list]
/-- h, of which i words are done -/
def mixd (h s : List UInt32) (i : Nat) : List UInt32 := (List.zipWith (· + ·) h s).take i ++ h.drop i
theorem mixd_len (h s : List UInt32) (i : Nat) (hh : h.length = 8) (hs : s.length = 8) (hi : i ≤ 8) : (mixd h s i).length = 8 := by simp [mixd, hh, hs]; omega
theorem mixd_get (h s : List UInt32) (i : Nat) (hh : h.length = 8) (hs : s.length = 8) (hi : i < 8) : (mixd h s i).getD i 0 = h.getD i 0 := by
  unfold mixd
  rw [List.getD_eq_getElem?_getD, List.getElem?_append_right (by simp [hh, hs]; omega)]
  simp [hh, hs, show i - min i 8 = 0 by omega]
theorem mixd_set (h s : List UInt32) (i : Nat) (hh : h.length = 8) (hs : s.length = 8) (hi : i < 8) : (mixd h s i).set i (h.getD i 0 + s.getD i 0) = mixd h s (i + 1) := by
  unfold mixd
  have hz : (List.zipWith (· + ·) h s).length = 8 := by simp [hh, hs]
  rw [List.set_append_right _ _ (by simp [hz]; omega), List.take_succ_eq_append_getElem (by omega), List.drop_eq_getElem_cons (l := h) (by omega)]
  rw [show i - (List.take i (List.zipWith (· + ·) h s)).length = 0 by simp [hz]; omega, List.set_cons_zero, List.append_assoc]
  simp only [List.getElem_zipWith, List.getD_eq_getElem?_getD, List.getElem?_eq_getElem (show i < h.length by omega), List.getElem?_eq_getElem (show i < s.length by omega), Option.getD_some, List.cons_append, List.nil_append]
theorem mixd_zero (h s : List UInt32) : mixd h s 0 = h := by simp [mixd]
theorem mixd_full (h s : List UInt32) (hh : h.length = 8) (hs : s.length = 8) : mixd h s 8 = List.zipWith (· + ·) h s := by
  unfold mixd; rw [List.drop_eq_nil_of_le (by omega), List.append_nil, List.take_of_length_le (by simp [hh, hs])]

/-- L, of which i words are in (of 64) -/
def pz (L : List UInt32) (i : Nat) : List UInt32 := L.take i ++ List.replicate (64 - i) 0
theorem pz_len (L : List UInt32) (i : Nat) (h : L.length = 64) (hi : i ≤ 64) : (pz L i).length = 64 := by simp [pz, h]; omega
theorem pz_get (L : List UInt32) (i j : Nat) (h : L.length = 64) (hi : i ≤ 64) (hj : j < i) : (pz L i).getD j 0 = L.getD j 0 := by
  unfold pz
  rw [List.getD_eq_getElem?_getD, List.getElem?_append_left (by simp [h]; omega), List.getElem?_take, if_pos hj, ← List.getD_eq_getElem?_getD]
theorem pz_set (L : List UInt32) (i : Nat) (h : L.length = 64) (hi : i < 64) : (pz L i).set i (L.getD i 0) = pz L (i + 1) := by
  unfold pz
  have e : (L.take i).length = i := by simp [h]; omega
  rw [List.set_append_right _ _ (by omega), e, Nat.sub_self, show 64 - i = (64 - (i + 1)) + 1 by omega, List.replicate_succ, List.set_cons_zero, List.take_succ_eq_append_getElem (by omega), List.append_assoc]
  simp only [List.getD_eq_getElem?_getD, List.getElem?_eq_getElem (show i < L.length by omega), Option.getD_some, List.cons_append, List.nil_append]
theorem pz_zero (L : List UInt32) : pz L 0 = List.replicate 64 0 := by simp [pz]
theorem pz_full (L : List UInt32) (h : L.length = 64) : pz L 64 = L := by simp [pz]; exact List.take_of_length_le (by omega)
theorem acc4 (b : List UInt8) (s : Nat) : acc b s 4 = (b.getD s 0).toNat * 16777216 + (b.getD (s + 1) 0).toNat * 65536 + (b.getD (s + 2) 0).toNat * 256 + (b.getD (s + 3) 0).toNat := by
  simp only [acc, Nat.add_zero]; omega

theorem w_byte (z : UInt8) : IntKind.u32.wrap (z.toNat : Int) = (z.toNat : Int) := by
  have := z.toNat_lt; rw [IntKind.wrap_u32']; omega
theorem four_bytes (z0 z1 z2 z3 : UInt8) : IntKind.u32.wrap (IntKind.u32.wrap (IntKind.u32.wrap (IntKind.u32.wrap (IntKind.u32.wrap (z0.toNat : Int) * 16777216) + IntKind.u32.wrap (IntKind.u32.wrap (z1.toNat : Int) * 65536)) + IntKind.u32.wrap (IntKind.u32.wrap (z2.toNat : Int) * 256)) + IntKind.u32.wrap (z3.toNat : Int))
    = ((UInt32.ofNat (z0.toNat * 16777216 + z1.toNat * 65536 + z2.toNat * 256 + z3.toNat)).toNat : Int) := by
  have h0 := z0.toNat_lt
  have h1 := z1.toNat_lt
  have h2 := z2.toNat_lt
  have h3 := z3.toNat_lt
  rw [UInt32.toNat_ofNat_of_lt' (show _ < 4294967296 by omega)]
  simp only [IntKind.wrap_u32']
  omega
end Go.Proofs.YtkfhppbmnjmnoaaGreatDoor.P

namespace Go.Proofs.YtkfhppbmnjmnoaaGreatDoor.P

/-! ### what stands behind a text -/
def zn (n : Nat) : Nat := (119 - n % 64) % 64
def be8 (m : Nat) : List UInt8 := (List.range 8).map fun i => UInt8.ofNat (m / 2 ^ (56 - 8 * i))
def padL (n : Nat) : List UInt8 := 128 :: (List.replicate (zn n) 0 ++ be8 (8 * n))
/-- a length as it is taken -/
def cl (n : Int) : Nat := if n < 0 then 0 else if 576460752303423488 < n then 576460752303423488 else n.toNat
theorem be8_len (m : Nat) : (be8 m).length = 8 := by simp [be8]
theorem padL_len (n : Nat) : (padL n).length = zn n + 9 := by simp [padL, be8_len]
theorem zn_lt (n : Nat) : zn n < 64 := Nat.mod_lt _ (by decide)
theorem padL_fill (n : Nat) : (n + (padL n).length) % 64 = 0 := by rw [padL_len, zn]; omega
theorem cl_le (n : Int) : cl n ≤ 576460752303423488 := by unfold cl; split <;> (try split) <;> omega
theorem cl_nat (n : Nat) (h : n ≤ 576460752303423488) : cl (n : Int) = n := by unfold cl; rw [if_neg (by omega), if_neg (by omega)]; simp

/-- the same, of which k of the last bytes are in -/
def pk (c k : Nat) : List UInt8 := 128 :: (List.replicate (zn c) 0 ++ ((be8 (8 * c)).take k ++ List.replicate (8 - k) 0))
theorem pk_len (c k : Nat) (hk : k ≤ 8) : (pk c k).length = zn c + 9 := by simp [pk, be8_len]; omega
theorem pk_zero (c : Nat) : (List.replicate (zn c + 9) (0 : UInt8)).set 0 128 = pk c 0 := by
  rw [pk, List.take_zero, List.nil_append, List.replicate_append_replicate, List.replicate_succ]; rfl
theorem pk_set (c k : Nat) (hk : k < 8) : (pk c k).set (1 + zn c + k) (UInt8.ofNat (8 * c / 2 ^ (56 - 8 * k))) = pk c (k + 1) := by
  unfold pk
  have e1 : 1 + zn c + k = (zn c + k) + 1 := by omega
  have e2 : ((be8 (8 * c)).take k).length = k := by simp [be8_len]; omega
  rw [e1, List.set_cons_succ, List.set_append_right _ _ (by simp), List.length_replicate, show zn c + k - zn c = k by omega, List.set_append_right _ _ (by omega), e2, Nat.sub_self,
    show 8 - k = (8 - (k + 1)) + 1 by omega, List.replicate_succ, List.set_cons_zero, List.take_succ_eq_append_getElem (by rw [be8_len]; omega), List.append_assoc]
  congr 3
  simp [be8]
theorem pk_full (c : Nat) : pk c 8 = padL c := by
  rw [pk, padL, List.take_of_length_le (by simp [be8_len])]; simp
theorem pk_get (c k : Nat) (hk : k < 8) : (pk c k).getD (1 + zn c + k) 0 = 0 := by
  unfold pk
  have e1 : 1 + zn c + k = (zn c + k) + 1 := by omega
  have e2 : ((be8 (8 * c)).take k).length = k := by simp [be8_len]; omega
  rw [e1, List.getD_cons_succ, List.getD_eq_getElem?_getD, List.getElem?_append_right (by simp), List.length_replicate, show zn c + k - zn c = k by omega, List.getElem?_append_right (by omega), e2, Nat.sub_self,
    show 8 - k = (8 - (k + 1)) + 1 by omega, List.replicate_succ]; rfl

theorem be8_snoc (c k : Nat) (hk : k < 8) : (be8 (8 * c)).take k ++ [UInt8.ofNat (8 * c / 2 ^ (56 - 8 * k))] = (be8 (8 * c)).take (k + 1) := by
  rw [List.take_succ_eq_append_getElem (by rw [be8_len]; omega)]; simp [be8]

/-! ### the sum on its way -/
/-- h behind the first k blocks of l -/
def hb (h : List UInt32) (l : List UInt8) : Nat → List UInt32
  | 0 => h
  | k + 1 => blk (hb h l k) ((l.drop (64 * k)).take 64)
theorem hb_len (h : List UInt32) (hh : h.length = 8) (l : List UInt8) : ∀ k, (hb h l k).length = 8
  | 0 => hh
  | k + 1 => blk_len _ _ (hb_len h hh l k)
/-- bytes behind do not count -/
theorem hb_append (h : List UInt32) (l x : List UInt8) : ∀ k, 64 * k ≤ l.length → hb h (l ++ x) k = hb h l k
  | 0, _ => rfl
  | k + 1, hk => by
    rw [hb, hb, hb_append h l x k (by omega), List.drop_append_of_le_length (by omega), List.take_append_of_le_length (by simp; omega)]
def H0 : List UInt32 := [0x6a09e667, 0xbb67ae85, 0x3c6ef372, 0xa54ff53a, 0x510e527f, 0x9b05688c, 0x1f83d9ab, 0x5be0cd19]
def be4 (x : UInt32) : List UInt8 := [UInt8.ofNat (x.toNat / 16777216), UInt8.ofNat (x.toNat / 65536), UInt8.ofNat (x.toNat / 256), UInt8.ofNat x.toNat]
def dig (h : List UInt32) : List UInt8 := h.flatMap be4
def full (l : List UInt8) : List UInt8 := l ++ padL l.length
/-- the sum of a text -/
def shaL (l : List UInt8) : List UInt8 := dig (hb H0 (full l) ((full l).length / 64))
theorem full_len (l : List UInt8) : (full l).length % 64 = 0 := by simp only [full, List.length_append]; exact padL_fill _
theorem dig_len (h : List UInt32) : (dig h).length = 4 * h.length := by
  induction h with
  | nil => rfl
  | cons x h ih => simp only [dig, List.flatMap_cons, List.length_append, List.length_cons] at *; rw [ih]; simp [be4]; omega
theorem shaL_len (l : List UInt8) : (shaL l).length = 32 := by rw [shaL, dig_len, hb_len _ (by rfl)]
theorem sha_nothing : shaL [] = [0xe3, 0xb0, 0xc4, 0x42, 0x98, 0xfc, 0x1c, 0x14, 0x9a, 0xfb, 0xf4, 0xc8, 0x99, 0x6f, 0xb9, 0x24, 0x27, 0xae, 0x41, 0xe4, 0x64, 0x9b, 0x93, 0x4c, 0xa4, 0x95, 0x99, 0x1b, 0x78, 0x52, 0xb8, 0x55] := by decide +kernel

/-! ### a sum on its way: its words and the block that is not yet full -/
structure St (l : List UInt8) (hs : List UInt32) (rest : List UInt8) : Prop where
  words : hs = hb H0 l (l.length / 64)
  len : rest.length = 64
  rest : rest.take (l.length % 64) = l.drop (64 * (l.length / 64))
theorem St.len8 {l : List UInt8} {hs : List UInt32} {rest : List UInt8} (h : St l hs rest) : hs.length = 8 := by rw [h.words]; exact hb_len _ rfl _ _
theorem St.zero : St [] H0 (List.replicate 64 0) := ⟨rfl, by simp, by simp⟩
/-- bytes y go in -/
def ins (rest : List UInt8) (r : Nat) (y : List UInt8) : List UInt8 := rest.take r ++ (y ++ rest.drop (r + y.length))
theorem ins_len (rest : List UInt8) (r : Nat) (y : List UInt8) (h : rest.length = 64) (hr : r + y.length ≤ 64) : (ins rest r y).length = 64 := by
  simp [ins, h]; omega
theorem St.part {l : List UInt8} {hs : List UInt32} {rest : List UInt8} (h : St l hs rest) (y : List UInt8) (hy : l.length % 64 + y.length < 64) : St (l ++ y) hs (ins rest (l.length % 64) y) := by
  have e1 : (l ++ y).length / 64 = l.length / 64 := by rw [List.length_append]; omega
  have e2 : (l ++ y).length % 64 = l.length % 64 + y.length := by rw [List.length_append]; omega
  refine ⟨?_, ins_len _ _ _ h.len (by omega), ?_⟩
  · rw [e1, hb_append _ _ _ _ (by omega)]; exact h.words
  · have ht : (rest.take (l.length % 64)).length = l.length % 64 := by simp [h.len]; omega
    rw [e1, e2, ins, List.take_append, List.take_of_length_le (by omega), ht, show l.length % 64 + y.length - l.length % 64 = y.length by omega, List.take_left', List.drop_append_of_le_length (by omega), h.rest]
    rfl
theorem St.fill {l : List UInt8} {hs : List UInt32} {rest : List UInt8} (h : St l hs rest) (y : List UInt8) (hy : l.length % 64 + y.length = 64) (_hp : 0 < y.length) : St (l ++ y) (blk hs (ins rest (l.length % 64) y)) (ins rest (l.length % 64) y) := by
  have e1 : (l ++ y).length / 64 = l.length / 64 + 1 := by rw [List.length_append]; omega
  have e2 : (l ++ y).length % 64 = 0 := by rw [List.length_append]; omega
  have ei : ins rest (l.length % 64) y = (l ++ y).drop (64 * (l.length / 64)) := by
    rw [ins, h.rest, show rest.drop (l.length % 64 + y.length) = [] from List.drop_eq_nil_of_le (by rw [h.len]; omega), List.append_nil, List.drop_append_of_le_length (by omega)]
  refine ⟨?_, ins_len _ _ _ h.len (by omega), ?_⟩
  · rw [e1, hb, hb_append _ _ _ _ (by omega), ← h.words, ← ei, List.take_of_length_le (by rw [ins_len _ _ _ h.len (by omega)]; omega)]
  · rw [e1, e2, List.take_zero, List.drop_eq_nil_of_le (by rw [List.length_append]; omega)]
/-- what is full is the sum -/
theorem St.sum {l : List UInt8} {hs : List UInt32} {rest : List UInt8} (h : St (full l) hs rest) : dig hs = shaL l := by rw [shaL, h.words]

theorem dig_cons (x : UInt32) (h : List UInt32) : dig (x :: h) = be4 x ++ dig h := rfl
theorem dig_get : ∀ (h : List UInt32) (q r : Nat), q < h.length → r < 4 → (dig h).getD (4 * q + r) 0 = UInt8.ofNat ((h.getD q 0).toNat / 2 ^ (24 - 8 * r))
  | x :: h, 0, r, _, hr => by
    rw [dig_cons, List.getD_eq_getElem?_getD, List.getElem?_append_left (by simp [be4]; omega)]
    have : r = 0 ∨ r = 1 ∨ r = 2 ∨ r = 3 := by omega
    rcases this with rfl | rfl | rfl | rfl <;> simp [be4]
  | x :: h, q + 1, r, hq, hr => by
    rw [dig_cons, List.getD_eq_getElem?_getD, List.getElem?_append_right (by simp [be4]; omega), ← List.getD_eq_getElem?_getD, show 4 * (q + 1) + r - (be4 x).length = 4 * q + r by simp [be4]; omega, dig_get h q r (by simpa using hq) hr]
    simp
/-- L, of which k bytes are in (of n) -/
def bz (L : List UInt8) (n k : Nat) : List UInt8 := L.take k ++ List.replicate (n - k) 0
theorem bz_len (L : List UInt8) (n k : Nat) (h : L.length = n) (hk : k ≤ n) : (bz L n k).length = n := by simp [bz, h]; omega
theorem bz_set (L : List UInt8) (n k : Nat) (h : L.length = n) (hk : k < n) : (bz L n k).set k (L.getD k 0) = bz L n (k + 1) := by
  unfold bz
  have e : (L.take k).length = k := by simp [h]; omega
  rw [List.set_append_right _ _ (by omega), e, Nat.sub_self, show n - k = (n - (k + 1)) + 1 by omega, List.replicate_succ, List.set_cons_zero, List.take_succ_eq_append_getElem (by omega), List.append_assoc]
  simp only [List.getD_eq_getElem?_getD, List.getElem?_eq_getElem (show k < L.length by omega), Option.getD_some, List.cons_append, List.nil_append]
theorem bz_zero (L : List UInt8) (n : Nat) : bz L n 0 = List.replicate n 0 := by simp [bz]
theorem bz_full (L : List UInt8) (n : Nat) (h : L.length = n) : bz L n n = L := by simp [bz]; exact List.take_of_length_le (by omega)
end Go.Proofs.YtkfhppbmnjmnoaaGreatDoor.P
