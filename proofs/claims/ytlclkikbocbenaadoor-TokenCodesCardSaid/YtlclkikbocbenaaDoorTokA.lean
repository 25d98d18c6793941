/- CONTRACTS of layer 8 (token): texts and tags. CONTRACTS of layer 8 (token): the reference's texts and tags; which caveats fit. -/
import Derived.Test.YtlclkikbocbenaaDoorHmF
import Derived.Test.YtlclkikbocbenaaDoorHmC
import Derived.Test.YtlclkikbocbenaaDoorCavD
set_option linter.unusedSimpArgs false
set_option linter.unusedVariables false
namespace Go.Proofs.YtlclkikbocbenaaDoor.W
open Go.ChangeShapes Go.WideShapes Go.ChangeAt Go.RowKit
open Go.Proofs.YtlclkikbocbenaaDoor.P (enc)

theorem fr_of_blk {w : World} {g base : Nat} {L : List UInt8} (h : Blk w g L) (hg : base ≤ g) (n : Nat) (hn : L.length = n) (hm : n ≤ 9223372036854775807) : Fr w base (.slice (some ⟨g, 0, none⟩) n n) L := by
  subst hn; exact h.fr hg hm
/-! ### plain -/
def encZ (z : Int) : List UInt8 := enc z.toNat
theorem encZ_len (z : Int) (h : z ≤ 9223372036854775807) : (encZ z).length ≤ 9 := P.enc_len z.toNat (by omega)
theorem encz_len : ∀ (zs : List Int), (∀ z ∈ zs, z ≤ 9223372036854775807) → (zs.flatMap encZ).length ≤ 9 * zs.length
  | [], _ => by simp
  | z :: t, h => by
    have h1 := encZ_len z (h z (by simp))
    have h2 := encz_len t (fun x hx => h x (by simp [hx]))
    rw [List.flatMap_cons, List.length_append, List.length_cons]; omega
theorem encz_step (zs : List Int) (k : Nat) (h : k < zs.length) : (zs.take (k + 1)).flatMap encZ = (zs.take k).flatMap encZ ++ encZ (zs.getD k 0) := by
  rw [List.take_succ_eq_append_getElem h, List.flatMap_append]
  simp [h]
def tokW : List UInt8 := [116, 111, 107, 101, 110]
def textT (lane id epoch : Int) : List UInt8 := tokW ++ [lane, id, epoch].flatMap encZ
def firstL (k : List UInt8) (lane id epoch : Int) : List UInt8 := tagL k (textT lane id epoch)
def nextL (t : List UInt8) (c : Cv) : List UInt8 := tagL t (putA c)
def chainL (t : List UInt8) (L : List Cv) : List UInt8 := L.foldl nextL t

set_option maxRecDepth 100000 in
set_option maxHeartbeats 1000000 in
theorem numbers_any (a : Option Addr) (m0 c0 : Nat) (S : List UInt8) (b : Nat) (zs : List Int) (n : Nat) (w : World) (hr : Rd w a m0 c0 S) (hm0 : m0 ≤ 3000) (hn : zs.length = n) (hpos : 0 < n) (hz : n ≤ 10) (hfit : ∀ z ∈ zs, z ≤ 9223372036854775807) (hlt : b < w.heap.size)
    (hc : ∀ i, i < n → w.cell? ⟨b, i, none⟩ = some (.int .i64 (zs.getD i 0))) :
    Calls Tryd.prog 38 #[.slice a m0 c0, .slice (some ⟨b, 0, none⟩) n n] w fun e w' => ∃ v, e = .returned v ∧ Fr w' w.heap.size v (S ++ zs.flatMap encZ) ∧ Below w.heap.size w w' := by
  have HC := Lib.hid hc
  have HN := Lib.hid hn
  have HFIT := Lib.hid hfit
  have HLT := Lib.hid hlt
  have HR0 : Hid (Rd w a m0 c0 (S ++ (zs.take 0).flatMap encZ)) := Lib.hid (by simpa using hr)
  have HSL := Lib.hid (show S.length ≤ 3000 by rw [hr.hlen]; exact hm0)
  clear hc hn hfit hlt hr
  go_enter Tryd.func38, Tryd.ntmps38
  go_wp2_with fail
  go_loopw [0, 9] (fun v i wr => ∃ (k m c : Nat) (x : Option Addr), v = .slice x m c ∧ i = .int .i64 (k : Int) ∧ k ≤ n ∧ Hid (Rd wr x m c (S ++ (zs.take k).flatMap encZ)) ∧ Hid (0 < k → Fr wr w.heap.size (.slice x m c) (S ++ (zs.take k).flatMap encZ)) ∧ Hid (Below w.heap.size w wr)) (fun _ i _ => n - (intOf i).toNat)
  case atStart => exact ⟨0, m0, c0, a, rfl, rfl, Nat.zero_le _, HR0, Lib.hid (fun h => absurd h (by decide)), Lib.hid (Below.refl _ _)⟩
  case round =>
    obtain ⟨k, m, c, x, rfl, rfl, hk, HR, HF, HB⟩ := hrel
    have hml := HR.out.hlen
    have hel := encz_len (zs.take k) (fun z hz => HFIT.out z (List.mem_of_mem_take hz))
    have hm : m ≤ 3090 := by
      rw [← hml, List.length_append]
      have := HSL.out
      have : (zs.take k).length ≤ k := by simp; omega
      omega
    clear hml hel
    by_cases hlt : k < n
    · have hcell := HC.out k hlt
      rw [← HB.out.cell (p := ⟨b, k, none⟩) HLT.out] at hcell
      have hst := encz_step zs k (by rw [HN.out]; exact hlt)
      have hfz := HFIT.out (zs.getD k 0) (by
        have hk2 : k < zs.length := by rw [HN.out]; exact hlt
        have : zs.getD k 0 = zs[k] := by simp [hk2]
        rw [this]; exact List.getElem_mem hk2)
      obtain ⟨z, hz0⟩ : ∃ z, zs.getD k 0 = z := ⟨_, rfl⟩
      rw [hz0] at hcell hst hfz
      have hst2 : S ++ (zs.take k).flatMap encZ ++ enc z.toNat = S ++ (zs.take (k + 1)).flatMap encZ := by rw [hst, List.append_assoc]; rfl
      have HST := Lib.hid hst2
      have el := encZ_len z hfz
      unfold encZ at el
      obtain ⟨q, hq⟩ : ∃ q, (enc z.toNat).length = q := ⟨_, rfl⟩
      have HQ := Lib.hid hq
      have HLQ := Lib.hid HR.out.hlen
      rw [hq] at el
      have HLL := Lib.hid (show (S ++ (zs.take (k + 1)).flatMap encZ).length = m + q by rw [← HST.out, @List.length_append _ (S ++ _) _, HLQ.out, HQ.out])
      clear hst hst2 hz0 hq
      go_wp2_with (go_at_call 69; refine (pnum x m c z _ wr HR.out hfz (by omega)).mono ?_; rw [HST.out, HQ.out]; rintro e w4 ⟨rfl, hk4, hb4, hz4⟩; have HR4 := Lib.hid (hk4.rd' (m + q) HLL.out (by omega)); have HF4 := Lib.hid (fr_of_blk hk4 HB.out.size (m + q) HLL.out (by omega)); have HB4 := Lib.hid (HB.out.trans (hb4.mono HB.out.size)); clear hk4 hb4 hz4)
      go_roundw
      case rel => exact ⟨k + 1, m + q, m + q, _, rfl, vint (by omega), by omega, HR4, Lib.hid (fun _ => HF4.out), HB4⟩
      case measure => simp [intOf]; omega
    · obtain rfl : n = k := by omega
      have hf := HF.out hpos
      rw [List.take_of_length_le (by rw [HN.out]; exact Nat.le_refl _)] at hf
      have HFF := Lib.hid hf
      clear hf
      go_wp2_with fail
      go_ret
      exact ⟨_, rfl, HFF.out, HB.out⟩

theorem ints_in (w : World) (zs : List Int) (n : Nat) (hn : zs.length = n) (i : Nat) (hi : i < n) : (w.alloc (.cells (zs.map (Value.int .i64)).toArray 3)).cell? ⟨w.heap.size, i, none⟩ = some (.int .i64 (zs.getD i 0)) := by
  rw [cell_of_row _ w.heap.size i _ 3 _ (heap_alloc_new w _)]
  simp [hn, hi]
theorem three_fit (a b c : Int) (ha : a ≤ 9223372036854775807) (hb : b ≤ 9223372036854775807) (hc : c ≤ 9223372036854775807) : ∀ z ∈ [a, b, c], z ≤ 9223372036854775807 := by
  intro z hz
  simp at hz
  rcases hz with rfl | rfl | rfl <;> assumption

set_option maxRecDepth 100000 in
set_option maxHeartbeats 1000000 in
theorem text_any (lane id epoch : Int) (w : World) (hf : ∀ z ∈ [lane, id, epoch], z ≤ 9223372036854775807) :
    Calls Tryd.prog 13 #[.int .i64 lane, .int .i64 id, .int .i64 epoch] w fun e w' => ∃ v, e = .returned v ∧ Fr w' w.heap.size v (textT lane id epoch) ∧ Below w.heap.size w w' := by
  have kc := fun (w : World) (C : Array Value) (n c : Nat) => Lib.run_convert_bytes_const (P := Tryd.prog) w 31 5 C n c Tryd.underlying31 Tryd.underlying5
  have HF := Lib.hid hf
  obtain ⟨E, hE⟩ : ∃ E, textT lane id epoch = E := ⟨_, rfl⟩
  rw [hE]
  have HE := Lib.hid (show tokW ++ [lane, id, epoch].flatMap encZ = E from hE)
  clear hf hE
  go_enter Tryd.func13, Tryd.ntmps13
  go_wp2_with fail
  have hr0 : Rd (w.alloc (.cells (tokW.map B).toArray 5 (5, 6))) (some ⟨w.heap.size, 0, none⟩) 5 5 tokW := rd_made w tokW _ _ _ rfl (by decide)
  have hb0 : Below w.heap.size w (w.alloc (.cells (tokW.map B).toArray 5 (5, 6))) := (Below.refl _ _).alloc (Nat.le_refl _) _
  obtain ⟨wa, hwa⟩ : ∃ wa, wa = w.alloc (.cells (tokW.map B).toArray 5 (5, 6)) := ⟨_, rfl⟩
  have hsz : wa.heap.size = w.heap.size + 1 := by rw [hwa]; simp
  rw [← hwa] at hr0 hb0
  have key := numbers_any (some ⟨w.heap.size, 0, none⟩) 5 5 tokW wa.heap.size [lane, id, epoch] 3 (wa.alloc (.cells ([lane, id, epoch].map (Value.int .i64)).toArray 3)) (hr0.mono ((Below.refl _ _).alloc (Nat.le_refl _) _)) (by decide) rfl (by decide) (by decide) HF.out (by simp) (fun i hi => ints_in wa [lane, id, epoch] 3 rfl i hi)
  rw [HE.out, hsz] at key
  have hsz2 : (wa.alloc (.cells ([lane, id, epoch].map (Value.int .i64)).toArray 3)).heap.size = w.heap.size + 2 := by simp [hsz]
  rw [hsz2] at key
  have HBA := Lib.hid (hb0.alloc hb0.size (.cells ([lane, id, epoch].map (Value.int .i64)).toArray 3))
  rw [hwa] at key HBA
  have KEY := Lib.hid key
  clear key hwa hsz hsz2 hr0 hb0
  refine KEY.out.mono ?_
  rintro e w4 ⟨v, rfl, hf, hb⟩
  have HFF := Lib.hid hf
  have HBB := Lib.hid hb
  clear hf hb
  go_wp2_with fail
  go_ret
  exact ⟨v, rfl, HFF.out.base (by omega), HBA.out.trans (HBB.out.mono (by omega))⟩

set_option maxRecDepth 100000 in
set_option maxHeartbeats 1000000 in
theorem first_big (s : ByteArray) (lane id epoch : Int) (w : World) (hK : Ks w) (hs : s.size ≤ 140737488351232) (hf : ∀ z ∈ [lane, id, epoch], z ≤ 9223372036854775807) :
    Calls Tryd.prog 34 #[.string s, .int .i64 lane, .int .i64 id, .int .i64 epoch] w fun e w' => e = .returned (.string (str (firstL s.data.toList lane id epoch))) ∧ Below w.heap.size w w' := by
  have HK := Lib.hid hK
  have HF := Lib.hid hf
  have hel := encz_len [lane, id, epoch] hf
  obtain ⟨E, hE⟩ : ∃ E, textT lane id epoch = E := ⟨_, rfl⟩
  have hEl : E.length ≤ 40 := by rw [← hE, textT, List.length_append]; simp only [tokW, List.length_cons, List.length_nil] at hel ⊢; omega
  obtain ⟨S, hS⟩ : ∃ S, str (firstL s.data.toList lane id epoch) = S := ⟨_, rfl⟩
  have HS := Lib.hid (show str (tagL s.data.toList E) = S by rw [← hS, firstL, hE])
  rw [hS]
  have HE := Lib.hid hE
  have HEL := Lib.hid hEl
  clear hK hf hel hE hEl hS
  go_enter Tryd.func34, Tryd.ntmps34
  go_wp2_with fail
  refine (text_any lane id epoch w HF.out).mono ?_
  rw [HE.out]
  rintro e w1 ⟨v1, rfl, hf1, hb1⟩
  obtain ⟨a1, c1, hv1, hr1⟩ := hf1.form' E.length rfl
  subst hv1
  have HR1 := Lib.hid hr1
  have HB1 := Lib.hid hb1
  clear hf1 hb1 hr1
  go_wp2_with fail
  refine (tag_big s a1 E.length c1 E w1 (HK.out.below HB1.out HK.out.pos) hs HR1.out (by have := HEL.out; omega)).mono ?_
  rw [HS.out]
  rintro e w2 ⟨rfl, hb2⟩
  have HB2 := Lib.hid (HB1.out.trans (hb2.mono HB1.out.size))
  clear hb2
  go_wp2_with fail
  go_ret
  exact ⟨rfl, HB2.out⟩

theorem first_any (s : ByteArray) (lane id epoch : Int) (w : World) (hK : Ks w) (hs : s.size ≤ 50000000000000) (hf : ∀ z ∈ [lane, id, epoch], z ≤ 9223372036854775807) :
    Calls Tryd.prog 34 #[.string s, .int .i64 lane, .int .i64 id, .int .i64 epoch] w fun e w' => e = .returned (.string (str (firstL s.data.toList lane id epoch))) ∧ Below w.heap.size w w' :=
  first_big s lane id epoch w hK (Nat.le_trans hs (by decide)) hf

set_option maxRecDepth 100000 in
set_option maxHeartbeats 1000000 in
theorem tknext_any (s : ByteArray) (c : Cv) (w : World) (hK : Ks w) (hs : s.size ≤ 50000000000000) (hc : c.fit) :
    Calls Tryd.prog 42 #[.string s, c.val] w fun e w' => e = .returned (.string (str (nextL s.data.toList c))) ∧ Below w.heap.size w w' := by
  have HK := Lib.hid hK
  have HC := Lib.hid hc
  have hpl := putA_len c
  obtain ⟨kind, num, name⟩ := c
  obtain ⟨E, hE⟩ : ∃ E, putA ⟨kind, num, name⟩ = E := ⟨_, rfl⟩
  rw [hE] at hpl
  obtain ⟨S, hS⟩ : ∃ S, str (nextL s.data.toList ⟨kind, num, name⟩) = S := ⟨_, rfl⟩
  have HS := Lib.hid (show str (tagL s.data.toList E) = S by rw [← hS, nextL, hE])
  rw [hS]
  have HE := Lib.hid hE
  have HEL := Lib.hid hpl
  clear hK hc hpl hE hS
  go_enter Tryd.func42, Tryd.ntmps42
  go_wp2_with (with_reducible refine box_row (o := ⟨some 3, _, _, _, _, _⟩) rfl _ _ rfl [.int .i64 kind, .int .i64 num, .string name] rfl ?_; intro w1 hr1 hb1 hz1; have HR1 := Lib.hid hr1; have HB1 := Lib.hid hb1; clear hr1 hb1 hz1; have f0 := HR1.out.c0; have f1 := HR1.out.c1; have f2 := HR1.out.c2)
  refine (cput_any ⟨kind, num, name⟩ none 0 0 [] w1 HC.out (Rd_nil w1) (by decide)).mono ?_
  rw [List.nil_append, HE.out]
  rintro e w2 ⟨v2, rfl, hf2, hb2⟩
  obtain ⟨a2, c2, hv2, hr2⟩ := hf2.form' E.length rfl
  subst hv2
  have HR2 := Lib.hid hr2
  have HB2 := Lib.hid (HB1.out.trans (hb2.mono HB1.out.size))
  clear hf2 hb2 hr2 f0 f1 f2
  go_wp2_with fail
  refine (tag_any s a2 E.length c2 E w2 (HK.out.below HB2.out HK.out.pos) hs HR2.out (by have := HEL.out; omega)).mono ?_
  rw [HS.out]
  rintro e w3 ⟨rfl, hb3⟩
  have HB3 := Lib.hid (HB2.out.trans (hb3.mono HB2.out.size))
  clear hb3
  go_wp2_with fail
  go_ret
  exact ⟨rfl, HB3.out⟩

theorem chain_step (t : List UInt8) (L : List Cv) (k : Nat) (h : k < L.length) : chainL t (L.take (k + 1)) = nextL (chainL t (L.take k)) (L.getD k default) := by
  unfold chainL
  rw [List.take_succ_eq_append_getElem h, List.foldl_append]
  simp [h]
theorem chain_len (t : List UInt8) (L : List Cv) (n : Nat) (ht : t.length ≤ n) (h32 : 32 ≤ n) : (chainL t L).length ≤ n := by
  unfold chainL
  induction L generalizing t with
  | nil => exact ht
  | cons c r ih => exact ih (nextL t c) (by unfold nextL; rw [tagL_len]; exact h32)

set_option maxRecDepth 100000 in
set_option maxHeartbeats 1000000 in
theorem chain_any (s : ByteArray) (a : Option Addr) (len cap : Nat) (L : List Cv) (w : World) (hK : Ks w) (hs : s.size ≤ 50000000000000) (h : Cvs w a len cap L) (hmax : len ≤ 1000000) :
    Calls Tryd.prog 18 #[.string s, .slice a len cap] w fun e w' => e = .returned (.string (str (chainL s.data.toList L))) ∧ Below w.heap.size w w' := by
  have HK := Lib.hid hK
  have HL := Lib.hid h.hlen
  have H := Lib.hid h
  have HSS := Lib.hid hs
  obtain ⟨S0, hS0⟩ : ∃ S0, s.data.toList = S0 := ⟨_, rfl⟩
  have hsl : S0.length ≤ 50000000000000 := by rw [← hS0]; simpa using hs
  obtain ⟨R, hR⟩ : ∃ R, str (chainL S0 L) = R := ⟨_, rfl⟩
  have hstart : str (chainL S0 (L.take 0)) = s := by rw [← hS0]; rfl
  rw [hS0, hR]
  have HR := Lib.hid hR
  have HSL := Lib.hid hsl
  have HST := Lib.hid hstart
  clear hK h hs hS0 hsl hR hstart
  go_enter Tryd.func18, Tryd.ntmps18
  go_wp2_with fail
  go_loopw [0, 9] (fun v i wr => ∃ (k : Nat) (t : ByteArray), v = .string t ∧ i = .int .i64 (k : Int) ∧ k ≤ len ∧ Hid (str (chainL S0 (L.take k)) = t) ∧ Hid (Below w.heap.size w wr)) (fun _ i _ => len - (intOf i).toNat)
  case atStart => exact ⟨0, s, rfl, rfl, Nat.zero_le _, HST, Lib.hid (Below.refl _ _)⟩
  case round =>
    obtain ⟨k, t, rfl, rfl, hk, HT, HB⟩ := hrel
    by_cases hlt : k < len
    · obtain ⟨b, off, rfl, hblt, hcell⟩ := H.out.at (by omega)
      obtain ⟨x0, x1, x2⟩ := hcell k hlt
      have hfit := H.out.fitAt hlt
      have hst := chain_step S0 L k (by rw [HL.out]; exact hlt)
      have hcl := chain_len S0 (L.take k) 50000000000000 HSL.out (by decide)
      rcases hce : L.getD k default with ⟨kind, num, name⟩
      rw [hce] at x0 x1 x2 hfit hst
      simp only at x0 x1 x2
      rw [← HB.out.cell (p := ⟨b, off + k * 3, none⟩) hblt] at x0
      rw [← HB.out.cell (p := ⟨b, off + k * 3 + 1, none⟩) hblt] at x1
      rw [← HB.out.cell (p := ⟨b, off + k * 3 + 2, none⟩) hblt] at x2
      have HFI := Lib.hid hfit
      have htd : t.data.toList = chainL S0 (L.take k) := by rw [← HT.out, str_data]
      have hts : t.size ≤ 50000000000000 := by rw [← HT.out, str_size]; exact hcl
      obtain ⟨t2, ht2⟩ : ∃ t2, str (nextL t.data.toList ⟨kind, num, name⟩) = t2 := ⟨_, rfl⟩
      have HT2 := Lib.hid ht2
      have HT3 := Lib.hid (show str (chainL S0 (L.take (k + 1))) = t2 by rw [hst, ← htd, ht2])
      have HTS := Lib.hid hts
      clear hcell hfit hst hcl hce htd hts ht2
      go_wp2_with (go_at_call 42; refine (tknext_any t ⟨kind, num, name⟩ _ (HK.out.below (HB.out.alloc HB.out.size _) HK.out.pos) HTS.out HFI.out).mono ?_; rw [HT2.out]; rintro e w4 ⟨rfl, hb4⟩; have HB4 := Lib.hid ((HB.out.alloc HB.out.size _).trans (hb4.mono (HB.out.alloc HB.out.size _).size)); clear hb4)
      go_roundw
      case rel => exact ⟨k + 1, t2, rfl, vint (by omega), by omega, HT3, HB4⟩
      case measure => simp [intOf]; omega
    · obtain rfl : len = k := by omega
      have ht := HT.out
      rw [List.take_of_length_le (by rw [HL.out]; exact Nat.le_refl _)] at ht
      have HTT := Lib.hid (show t = R by rw [← ht]; exact HR.out)
      clear ht
      go_wp2_with fail
      go_ret
      exact ⟨by rw [← HTT.out]; rfl, HB.out⟩

end Go.Proofs.YtlclkikbocbenaaDoor.W

namespace Go.Proofs.YtlclkikbocbenaaDoor.W
open Go.ChangeShapes Go.WideShapes Go.ChangeAt Go.RowKit
open Go.Proofs.YtlclkikbocbenaaDoor.P (enc)

set_option maxRecDepth 100000 in
set_option maxHeartbeats 1000000 in
theorem rtext08_any (lane id epoch : Int) (w : World) (hf : ∀ z ∈ [lane, id, epoch], z ≤ 9223372036854775807) :
    Calls Tryd.prog 14 #[.int .i64 lane, .int .i64 id, .int .i64 epoch] w fun x w' => ∃ v, x = .returned v ∧ Fr w' w.heap.size v (textT lane id epoch) ∧ Below w.heap.size w w' := by
  have kc := fun (w : World) (C : Array Value) (n c : Nat) => Lib.run_convert_bytes_const (P := Tryd.prog) w 31 5 C n c Tryd.underlying31 Tryd.underlying5
  have l0 := encZ_len lane (hf lane (by simp))
  have f0 := hf lane (by simp)
  have l1 := encZ_len id (hf id (by simp))
  have f1 := hf id (by simp)
  have l2 := encZ_len epoch (hf epoch (by simp))
  have f2 := hf epoch (by simp)
  unfold encZ at l0 l1 l2
  have e0 : textT lane id epoch = tokW ++ enc lane.toNat ++ enc id.toNat ++ enc epoch.toNat := by simp [textT, encZ]
  rw [e0]
  obtain ⟨E0, hE0⟩ : ∃ E, tokW ++ enc lane.toNat = E := ⟨_, rfl⟩
  rw [hE0]
  have HE0 := Lib.hid hE0
  have HN0 : Hid (E0.length ≤ 14) := Lib.hid (by rw [← hE0, List.length_append]; simp [tokW]; omega)
  obtain ⟨E1, hE1⟩ : ∃ E, E0 ++ enc id.toNat = E := ⟨_, rfl⟩
  rw [hE1]
  have HE1 := Lib.hid hE1
  have HN1 : Hid (E1.length ≤ 23) := Lib.hid (by rw [← hE1, List.length_append]; have := HN0.out; omega)
  obtain ⟨E2, hE2⟩ : ∃ E, E1 ++ enc epoch.toNat = E := ⟨_, rfl⟩
  rw [hE2]
  have HE2 := Lib.hid hE2
  have HN2 : Hid (E2.length ≤ 32) := Lib.hid (by rw [← hE2, List.length_append]; have := HN1.out; omega)
  clear hf e0 hE0 hE1 hE2 l0 l1 l2
  go_enter Tryd.func14, Tryd.ntmps14
  go_wp2_with fail
  have hr0 : Rd (w.alloc (.cells (tokW.map B).toArray 5 (5, 6))) (some ⟨w.heap.size, 0, none⟩) 5 5 tokW := rd_made w tokW _ _ _ rfl (by decide)
  have hb0 : Below w.heap.size w (w.alloc (.cells (tokW.map B).toArray 5 (5, 6))) := (Below.refl _ _).alloc (Nat.le_refl _) _
  refine (rnum (some ⟨w.heap.size, 0, none⟩) 5 5 lane tokW _ hr0 f0 (by omega)).mono ?_
  rw [HE0.out]
  rintro x w1 ⟨v1, rfl, hf1, hb1⟩
  obtain ⟨p1, c1, hv1, hr1⟩ := hf1.form' E0.length rfl
  subst hv1
  have HR1 := Lib.hid hr1
  have HB1 := Lib.hid (hb0.trans (hb1.mono hb0.size))
  clear hf1 hb1
  go_wp2_with fail
  refine (rnum p1 E0.length c1 id E0 w1 HR1.out f1 (by have := HN0.out; omega)).mono ?_
  rw [HE1.out]
  rintro x w2 ⟨v2, rfl, hf2, hb2⟩
  obtain ⟨p2, c2, hv2, hr2⟩ := hf2.form' E1.length rfl
  subst hv2
  have HR2 := Lib.hid hr2
  have HB2 := Lib.hid (HB1.out.trans (hb2.mono HB1.out.size))
  clear hf2 hb2
  go_wp2_with fail
  refine (rnum p2 E1.length c2 epoch E1 w2 HR2.out f2 (by have := HN1.out; omega)).mono ?_
  rw [HE2.out]
  rintro x w3 ⟨v3, rfl, hf3, hb3⟩
  have HF3 := Lib.hid (hf3.base HB2.out.size)
  have HB3 := Lib.hid (HB2.out.trans (hb3.mono HB2.out.size))
  clear hf3 hb3
  go_wp2_with fail
  go_ret
  exact ⟨_, rfl, HF3.out, HB3.out⟩

set_option maxRecDepth 100000 in
set_option maxHeartbeats 1000000 in
theorem rchain_any (s : ByteArray) (a : Option Addr) (len cap : Nat) (L : List Cv) (w : World) (hs : s.size ≤ 50000000000000) (h : Cvs w a len cap L) (hmax : len ≤ 1000000) :
    Calls Tryd.prog 19 #[.string s, .slice a len cap] w fun e w' => e = .returned (.string (str (chainL s.data.toList L))) ∧ Below w.heap.size w w' := by
  have HL := Lib.hid h.hlen
  have H := Lib.hid h
  have HSS := Lib.hid hs
  obtain ⟨S0, hS0⟩ : ∃ S0, s.data.toList = S0 := ⟨_, rfl⟩
  have hsl : S0.length ≤ 50000000000000 := by rw [← hS0]; simpa using hs
  obtain ⟨R, hR⟩ : ∃ R, str (chainL S0 L) = R := ⟨_, rfl⟩
  have hstart : str (chainL S0 (L.take 0)) = s := by rw [← hS0]; rfl
  rw [hS0, hR]
  have HR := Lib.hid hR
  have HSL := Lib.hid hsl
  have HST := Lib.hid hstart
  clear h hs hS0 hsl hR hstart
  go_enter Tryd.func19, Tryd.ntmps19
  go_wp2_with fail
  go_loopw [0, 5] (fun v i wr => ∃ (k : Nat) (t : ByteArray), v = .string t ∧ i = .int .i64 (k : Int) ∧ k ≤ len ∧ Hid (str (chainL S0 (L.take k)) = t) ∧ Hid (Below w.heap.size w wr)) (fun _ i _ => len - (intOf i).toNat)
  case atStart => exact ⟨0, s, rfl, rfl, Nat.zero_le _, HST, Lib.hid (Below.refl _ _)⟩
  case round =>
    obtain ⟨k, t, rfl, rfl, hk, HT, HB⟩ := hrel
    by_cases hlt : k < len
    · obtain ⟨b, off, rfl, hblt, hcell⟩ := H.out.at (by omega)
      obtain ⟨x0, x1, x2⟩ := hcell k hlt
      have hfit := H.out.fitAt hlt
      have hst := chain_step S0 L k (by rw [HL.out]; exact hlt)
      have hcl := chain_len S0 (L.take k) 50000000000000 HSL.out (by decide)
      rcases hce : L.getD k default with ⟨kind, num, name⟩
      rw [hce] at x0 x1 x2 hfit hst
      simp only at x0 x1 x2
      rw [← HB.out.cell (p := ⟨b, off + k * 3, none⟩) hblt] at x0
      rw [← HB.out.cell (p := ⟨b, off + k * 3 + 1, none⟩) hblt] at x1
      rw [← HB.out.cell (p := ⟨b, off + k * 3 + 2, none⟩) hblt] at x2
      have HFI := Lib.hid hfit
      have htd : t.data.toList = chainL S0 (L.take k) := by rw [← HT.out, str_data]
      have hts : t.size ≤ 50000000000000 := by rw [← HT.out, str_size]; exact hcl
      obtain ⟨t2, ht2⟩ : ∃ t2, str (nextL t.data.toList ⟨kind, num, name⟩) = t2 := ⟨_, rfl⟩
      have HT2 := Lib.hid ht2
      have HT3 := Lib.hid (show str (chainL S0 (L.take (k + 1))) = t2 by rw [hst, ← htd, ht2])
      have HTS := Lib.hid hts
      clear hcell hfit hst hcl hce htd hts ht2
      have hpl := putA_len ⟨kind, num, name⟩
      obtain ⟨PE, hPE⟩ : ∃ E, putA ⟨kind, num, name⟩ = E := ⟨_, rfl⟩
      rw [hPE] at hpl
      have HT4 := Lib.hid (show str (tagL t.data.toList PE) = t2 by rw [← HT2.out, nextL, hPE])
      have HPE := Lib.hid hPE
      have HPN := Lib.hid hpl
      clear hPE hpl
      go_wp2_with fail
      refine (uput_any ⟨kind, num, name⟩ none 0 0 [] wr HFI.out (Rd_nil wr) (by decide)).mono ?_
      rw [List.nil_append, HPE.out]
      rintro e w3 ⟨v3, rfl, hf3, hb3⟩
      obtain ⟨a3, c3, hv3, hr3⟩ := hf3.form' PE.length rfl
      subst hv3
      have HR3 := Lib.hid hr3
      have HB3 := Lib.hid (HB.out.trans (hb3.mono HB.out.size))
      clear hf3 hb3 hr3 x0 x1 x2
      go_wp2_with fail
      refine (rtag_any t a3 PE.length c3 PE w3 HTS.out HR3.out (by have := HPN.out; omega)).mono ?_
      rw [HT4.out]
      rintro e w4 ⟨rfl, hb4⟩
      have HB4 := Lib.hid (HB3.out.trans (hb4.mono HB3.out.size))
      clear hb4
      go_wp2_with fail
      go_roundw
      case rel => exact ⟨k + 1, t2, rfl, vint (by omega), by omega, HT3, HB4⟩
      case measure => simp [intOf]; omega
    · obtain rfl : len = k := by omega
      have ht := HT.out
      rw [List.take_of_length_le (by rw [HL.out]; exact Nat.le_refl _)] at ht
      have HTT := Lib.hid (show t = R by rw [← ht]; exact HR.out)
      clear ht
      go_wp2_with fail
      go_ret
      exact ⟨by rw [← HTT.out]; rfl, HB.out⟩

set_option maxRecDepth 100000 in
set_option maxHeartbeats 1000000 in
theorem fit_any (a : Option Addr) (len cap : Nat) (L : List Cv) (w : World) (h : Cvs w a len cap L) :
    Calls Tryd.prog 66 #[.slice a len cap] w fun e w' => e = .returned (.bool (decide (len ≤ 8) && L.all Cv.ok)) ∧ Below w.heap.size w w' := by
  have HL := Lib.hid h.hlen
  have H := Lib.hid h
  obtain ⟨R, hR⟩ : ∃ R, (decide (len ≤ 8) && L.all Cv.ok) = R := ⟨_, rfl⟩
  rw [hR]
  have HR := Lib.hid hR
  clear h hR
  by_cases h8 : 8 < len
  · have HRF := Lib.hid (show R = false by rw [← HR.out, decide_eq_false (by omega), Bool.false_and])
    go_enter Tryd.func66, Tryd.ntmps66
    go_wp2_with fail
    go_ret
    exact ⟨by rw [HRF.out]; rfl, Below.refl _ _⟩
  · have h8' : len ≤ 8 := by omega
    go_enter Tryd.func66, Tryd.ntmps66
    go_wp2_with fail
    go_loopw [10] (fun i wr => ∃ (k : Nat), i = .int .i64 (k : Int) ∧ k ≤ len ∧ Hid ((L.take k).all Cv.ok = true) ∧ Hid (Below w.heap.size w wr)) (fun i _ => len - (intOf i).toNat)
    case atStart => exact ⟨0, rfl, Nat.zero_le _, Lib.hid rfl, Lib.hid (Below.refl _ _)⟩
    case round =>
      obtain ⟨k, rfl, hk, HA, HB⟩ := hrel
      by_cases hlt : k < len
      · obtain ⟨b, off, rfl, hblt, hcell⟩ := H.out.at (by omega)
        obtain ⟨x0, x1, x2⟩ := hcell k hlt
        have hfit := H.out.fitAt hlt
        have hst : (L.take (k + 1)).all Cv.ok = ((L.take k).all Cv.ok && (L.getD k default).ok) := by
          have hk2 : k < L.length := by rw [HL.out]; exact hlt
          rw [List.take_succ_eq_append_getElem hk2, List.all_append]
          simp [hk2]
        have hbad : (L.getD k default).ok = false → L.all Cv.ok = false := by
          intro h0
          have hk2 : k < L.length := by rw [HL.out]; exact hlt
          rw [List.all_eq_false]
          refine ⟨L[k], List.getElem_mem hk2, ?_⟩
          have e : L.getD k default = L[k] := by simp [hk2]
          rw [← e, h0]; decide
        rcases hce : L.getD k default with ⟨kind, num, name⟩
        rw [hce] at x0 x1 x2 hfit hst hbad
        simp only at x0 x1 x2
        rw [← HB.out.cell (p := ⟨b, off + k * 3, none⟩) hblt] at x0
        rw [← HB.out.cell (p := ⟨b, off + k * 3 + 1, none⟩) hblt] at x1
        rw [← HB.out.cell (p := ⟨b, off + k * 3 + 2, none⟩) hblt] at x2
        have HFI := Lib.hid hfit
        rcases hok : Cv.ok ⟨kind, num, name⟩ with _ | _
        · have HE := Lib.hid (show Cv.err ⟨kind, num, name⟩ = 1 by unfold Cv.err; rw [hok]; rfl)
          have HRF := Lib.hid (show R = false by rw [← HR.out, hbad hok, Bool.and_false])
          clear hcell hfit hst hbad hce hok
          go_wp2_with (go_at_call 60; refine (ccheck ⟨kind, num, name⟩ _ HFI.out).mono ?_; rw [HE.out]; rintro e w4 ⟨rfl, hb4⟩; have HB4 := Lib.hid ((HB.out.alloc HB.out.size _).trans (hb4.mono (HB.out.alloc HB.out.size _).size)); clear hb4)
          go_ret
          exact ⟨by rw [HRF.out]; rfl, HB4.out⟩
        · have HE := Lib.hid (show Cv.err ⟨kind, num, name⟩ = 0 by unfold Cv.err; rw [hok]; rfl)
          rw [hok, HA.out] at hst
          have HA2 := Lib.hid (show (L.take (k + 1)).all Cv.ok = true from hst)
          clear hcell hfit hst hbad hce hok
          go_wp2_with (go_at_call 60; refine (ccheck ⟨kind, num, name⟩ _ HFI.out).mono ?_; rw [HE.out]; rintro e w4 ⟨rfl, hb4⟩; have HB4 := Lib.hid ((HB.out.alloc HB.out.size _).trans (hb4.mono (HB.out.alloc HB.out.size _).size)); clear hb4)
          go_roundw
          case rel => exact ⟨k + 1, vint (by omega), by omega, HA2, HB4⟩
          case measure => simp [intOf]; omega
      · obtain rfl : len = k := by omega
        have ha := HA.out
        rw [List.take_of_length_le (by rw [HL.out]; exact Nat.le_refl _)] at ha
        have HRT := Lib.hid (show R = true by rw [← HR.out, ha, decide_eq_true h8']; rfl)
        clear ha
        go_wp2_with fail
        go_ret
        exact ⟨by rw [HRT.out]; rfl, HB.out⟩

end Go.Proofs.YtlclkikbocbenaaDoor.W
