/- CONTRACTS of layer 2 (pack): what writes bytes. CONTRACTS of layer 2 (pack): what writes bytes, the second part. CONTRACTS of layer 2 (pack): the reference's writing; slices.Clone, slices.Equal of bytes. -/
import Derived.Test.YtjolmjbhpokgmaaGreatMem
import Derived.Test.YtjolmjbhpokgmaaGreatPackP
import Derived.Deep.QuietTactic
import Derived.BigQuiet
set_option linter.unusedSimpArgs false
set_option linter.unusedVariables false
namespace Go.Proofs.YtjolmjbhpokgmaaGreat.W
open Go.ChangeShapes Go.WideShapes Go.ChangeAt Go.RowKit
open Go.Proofs.YtjolmjbhpokgmaaGreat.P (mk lo hi enc tl gr up)

set_option maxHeartbeats 400000 in
theorem psize (n : Int) (w : World) (h2 : n ≤ 9223372036854775807) :
    Calls Tryz.prog 88 #[.int .i64 n] w fun e w' => e = .returned (.int .i64 ((enc n.toNat).length : Int)) ∧ w = w' := by
  have hl := P.enc_len n.toNat (by omega)
  obtain ⟨m, hm⟩ : ∃ m : Nat, (enc n.toNat).length = m := ⟨_, rfl⟩
  rw [hm] at hl ⊢
  have HM := Lib.hid hm
  clear hm
  go_enter Tryz.func88, Tryz.ntmps88
  go_wp2
  go_loop [0, 3] (fun x s => ∃ (y : Int) (j : Nat), x = .int .i64 y ∧ s = .int .i64 j ∧ y ≤ 9223372036854775807 ∧ 1 ≤ j ∧ j ≤ 9 ∧ Hid ((enc n.toNat).length + 1 = (enc y.toNat).length + j)) (fun x _ => (intOf x).toNat)
  case atStart => exact ⟨n, 1, rfl, rfl, h2, by omega, by omega, Lib.hid rfl⟩
  case round =>
    obtain ⟨y, j, rfl, rfl, hy, hj1, hj9, HJ⟩ := hrel
    by_cases hge : 128 ≤ y
    · have e := P.enc_len_ge (n := y.toNat) (by omega)
      have e2 : y.toNat / 128 = (y / 128).toNat := by omega
      rw [e2] at e
      have hjj := HJ.out
      have h1 := P.enc_len_pos (y / 128).toNat
      have hn9 : j + 1 ≤ 9 := by have := HM.out; omega
      have HJ2 : Hid ((enc n.toNat).length + 1 = (enc (y / 128).toNat).length + (j + 1)) := by
        have : (enc n.toNat).length + 1 = (enc (y / 128).toNat).length + (j + 1) := by omega
        exact Lib.hid this
      clear hjj e e2 h1
      go_wp2
      go_round
      case rel => exact ⟨y / 128, j + 1, by go_num, by go_num, by omega, by omega, by omega, HJ2⟩
      case measure => simp [intOf]; omega
    · have e := P.enc_len_lt (n := y.toNat) (by omega)
      have hjj := HJ.out
      have hm := HM.out
      have hjm : j = m := by omega
      subst hjm
      clear hjj e hm
      go_wp2
      go_ret
      exact ⟨rfl, rfl⟩

theorem splice_zeros (l : List UInt8) (n len : Nat) (h : l.length = len) : splice (List.replicate (len + n) 0) 0 l = l ++ List.replicate n 0 := by
  subst h; simp [splice]

set_option maxHeartbeats 400000 in
theorem pgrown (a : Option Addr) (len cap n : Nat) (l : List UInt8) (w : World) (hr : Rd w a len cap l) (hmax : len + n ≤ 140737488355328) :
    Calls Tryz.prog 29 #[.slice a len cap, .int .i64 (n : Int)] w fun e w' => e = .returned (.slice (some ⟨w.heap.size, 0, none⟩) (len + n) (len + n)) ∧ Blk w' w.heap.size (l ++ List.replicate n 0) ∧ Below w.heap.size w w' ∧ w'.heap.size = w.heap.size + 1 := by
  have HR := Lib.hid hr
  have hlen := hr.hlen
  have HL := Lib.hid hlen
  clear hr hlen
  go_enter Tryz.func29, Tryz.ntmps29
  go_wp2_with (first | (at_make; refine make_blk rfl _ _ rfl _ (len + n) rfl rfl (by omega) (by omega) ?_; intro w1 hb1 hbl1 hsz1) | (with_reducible refine copy_rd rfl _ _ rfl _ _ _ _ _ _ rfl rfl w.heap.size 0 _ hb1 l (HR.out.mono hbl1) (by omega) (fun _ => rfl) (by simp) ?_; intro w2 hb2 hu2))
  go_ret
  refine ⟨rfl, ?_, hbl1.trans (hu2.below (Nat.le_refl _)), by rw [hu2.size, hsz1]⟩
  rw [splice_zeros l n len HL.out] at hb2; exact hb2

/-! ### the bytes of a number, from the last one on -/
theorem splice_set (L : List UInt8) (p : Nat) (done : List UInt8) (x : UInt8) (h : p + 1 + done.length ≤ L.length) : (splice L (p + 1) done).set p x = splice L p (x :: done) := by
  unfold splice
  rw [List.set_append]
  have h1 : (L.take (p + 1)).length = p + 1 := by simp; omega
  rw [if_pos (by omega)]
  have h2 : (L.take (p + 1)).set p x = L.take p ++ [x] := by
    rw [List.take_succ_eq_append_getElem (by omega), List.set_append_right]
    · rw [List.length_take, show p - min p L.length = 0 by omega]; rfl
    · rw [List.length_take]; omega
  rw [h2, List.append_assoc]
  congr 1
  simp only [List.cons_append, List.nil_append, List.length_cons]
  congr 3; omega
theorem splice_nil (L : List UInt8) (p : Nat) : splice L p [] = L := by simp [splice]
theorem tl_snoc (j n : Nat) : tl (j + 1) n = tl j (n / 128) ++ [mk n] := rfl

set_option maxHeartbeats 1000000 in
theorem play (g off m cap : Nat) (n : Int) (L : List UInt8) (w : World) (h2 : n ≤ 9223372036854775807) (hm : m = (enc n.toNat).length) (hb : Blk w g L) (hfit : off + m ≤ L.length) (hcap : m ≤ cap) :
    Calls Tryz.prog 89 #[.slice (some ⟨g, off, none⟩) m cap, .int .i64 n] w fun e w' => e = .returned (.tuple #[]) ∧ Blk w' g (splice L off (enc n.toNat)) ∧ Upd w w' g := by
  have hl9 := P.enc_len n.toNat (by omega)
  have hl1 := P.enc_len_pos n.toNat
  rw [← hm] at hl9 hl1
  obtain ⟨p, hp1, hp2⟩ := P.tl_enc n.toNat
  rw [← hm] at hp1
  have HM := Lib.hid hm
  have HP1 := Lib.hid hp1
  have HP2 := Lib.hid hp2
  have HB := Lib.hid hb
  obtain ⟨X0, hX0⟩ : ∃ X0 : Nat, n.toNat = X0 := ⟨_, rfl⟩
  have HX0 := Lib.hid hX0
  clear hm hp1 hp2 hb hX0
  by_cases hn : n < 0
  all_goals
    go_enter Tryz.func89, Tryz.ntmps89
    go_wp2
    go_loopw [1, 4] (fun y i wr => ∃ (j x : Nat) (done : List UInt8), y = .int .i64 x ∧ i = .int .i64 ((m : Int) - 1 - j) ∧ j ≤ m ∧ x ≤ 9223372036854775807 ∧ Hid (done.length = j) ∧ Hid (tl m X0 = tl (m - j) x ++ done) ∧ Hid (Blk wr g (splice L (off + (m - j)) done)) ∧ Upd w wr g) (fun _ i _ => (intOf i + 1).toNat)
    case atStart =>
      refine ⟨0, X0, [], ?_, by simp, by omega, by have := HX0.out; omega, Lib.hid rfl, Lib.hid (by simp), Lib.hid (by rw [splice_nil]; exact HB.out), Upd.refl _ _⟩
      have := HX0.out
      exact vint (by omega)
    case round =>
      obtain ⟨j, x, done, rfl, rfl, hj, hx, HD, HT, HBr, hu⟩ := hrel
      by_cases hlt : j < m
      · have hd := HD.out
        have ht := HT.out
        have hb := HBr.out
        obtain ⟨q, hq⟩ : ∃ q, m - 1 - j = q := ⟨_, rfl⟩
        have e1 : m - j = q + 1 := by omega
        rw [e1] at ht hb
        have hlen : (splice L (off + (q + 1)) done).length = L.length := length_splice _ _ _ (by omega)
        have hc := hb.cell (off + q) (by omega)
        have hfz := hb.frozen (off + q)
        have hset := hb.set (off + q) (mk x)
        rw [show off + (q + 1) = (off + q) + 1 by omega, splice_set _ _ _ _ (by omega)] at hset
        rw [tl_snoc, List.append_assoc] at ht
        generalize (splice L (off + (q + 1)) done).getD (off + q) 0 = old at *
        have hor := P.or_mk x
        have e2 : m - (j + 1) = q := by omega
        have e3 : ((x % 128 : Nat) : Int) = (x : Int) % 128 := by omega
        rw [e3] at hor
        have hst : Value.int .u8 (bits .or .u8 ((x : Int) % 128) 128) = B (mk x) := by rw [hor]; rfl
        have HQ := Lib.hid hq
        have HST := Lib.hid hst
        have HSET := Lib.hid hset
        have HT2 := Lib.hid ht
        have E2 := Lib.hid e2
        clear hd ht hb e1 hlen hset hor hst hq e2 e3
        have e4 : off + (m - 1 - j) = off + q := by rw [HQ.out]
        rw [← e4] at hc hfz
        clear e4
        go_wp2
        go_roundw
        case rel =>
          refine ⟨j + 1, x / 128, mk x :: done, by go_num, by go_num, by omega, by omega, Lib.hid (by simp [HD.out]), Lib.hid ?_, Lib.hid ?_, hu.trans (Upd.setCell _ _ _ _)⟩
          · rw [E2.out, HT2.out]; rfl
          · rw [HST.out, E2.out, HQ.out]; exact HSET.out
        case measure => simp [intOf]; omega
      · obtain rfl : j = m := by omega
        have ht := HT.out
        have hb := HBr.out
        rw [Nat.sub_self] at ht hb
        have hdone : done = p ++ [mk X0] := by
          have h1 := HP1.out
          have h0 := HX0.out
          rw [h0] at h1; rw [h1] at ht; exact ht.symm
        have hl := HD.out
        have hlen : (splice L (off + 0) done).length = L.length := length_splice _ _ _ (by omega)
        have hpl : p.length = j - 1 := by rw [hdone] at hl; simp at hl; omega
        have hget : (splice L (off + 0) done).getD (off + (j - 1)) 0 = mk X0 := by
          unfold splice
          rw [hdone, Nat.add_zero]
          have ht1 : (L.take off).length = off := by rw [List.length_take]; omega
          rw [List.getD_eq_getElem?_getD, List.getElem?_append_right (by omega), ht1, List.getElem?_append_left (by simp; omega), List.getElem?_append_right (by omega)]
          rw [show off + (j - 1) - off - p.length = 0 by omega]; rfl
        have hc := hb.cell (off + (j - 1)) (by omega)
        rw [hget] at hc
        have hfz := hb.frozen (off + (j - 1))
        have hset := hb.set (off + (j - 1)) (lo X0)
        have hfin : (splice L (off + 0) done).set (off + (j - 1)) (lo X0) = splice L off (enc n.toNat) := by
          have h2 := HP2.out
          have h0 := HX0.out
          rw [h0] at h2 ⊢
          rw [h2, hdone, Nat.add_zero]
          unfold splice
          have ht1 : (L.take off).length = off := by rw [List.length_take]; omega
          rw [List.set_append_right _ _ (by omega), ht1, List.set_append_left _ _ (by simp; omega), List.set_append_right _ _ (by omega)]
          rw [show off + (j - 1) - off - p.length = 0 by omega]
          simp
        rw [hfin] at hset
        have hand := P.andNot_mk X0
        have hst : Value.int .u8 (bits .andNot .u8 ((mk X0).toNat : Int) 128) = B (lo X0) := by rw [hand]; rfl
        have HST := Lib.hid hst
        have HSET := Lib.hid hset
        clear ht hb hdone hl hlen hpl hget hset hfin hand hst
        unfold B at hc
        go_wp2
        go_end0
        refine ⟨rfl, ?_, hu.trans (Upd.setCell _ _ _ _)⟩
        rw [HST.out]; exact HSET.out

end Go.Proofs.YtjolmjbhpokgmaaGreat.W

namespace Go.Proofs.YtjolmjbhpokgmaaGreat.W
open Go.ChangeShapes Go.WideShapes Go.ChangeAt Go.RowKit
open Go.Proofs.YtjolmjbhpokgmaaGreat.P (mk lo hi enc tl gr up)

theorem splice_end (l : List UInt8) (m len : Nat) (e : List UInt8) (h : l.length = len) (he : e.length = m) : splice (l ++ List.replicate m 0) len e = l ++ e := by
  subst h; subst he; simp [splice]

set_option maxHeartbeats 400000 in
theorem pnum (a : Option Addr) (len cap : Nat) (n : Int) (l : List UInt8) (w : World) (hr : Rd w a len cap l) (h2 : n ≤ 9223372036854775807) (hmax : len ≤ 140737488355000) :
    Calls Tryz.prog 67 #[.slice a len cap, .int .i64 n] w fun e w' => e = .returned (.slice (some ⟨w.heap.size, 0, none⟩) (len + (enc n.toNat).length) (len + (enc n.toNat).length)) ∧ Blk w' w.heap.size (l ++ enc n.toNat) ∧ Below w.heap.size w w' ∧ w'.heap.size = w.heap.size + 1 := by
  have hl9 := P.enc_len n.toNat (by omega)
  have hl1 := P.enc_len_pos n.toNat
  have hlen := hr.hlen
  obtain ⟨m, hm⟩ : ∃ m : Nat, (enc n.toNat).length = m := ⟨_, rfl⟩
  rw [hm] at hl9 hl1
  have hs := psize n w h2
  rw [hm] at hs ⊢
  have HM := Lib.hid hm
  have HR := Lib.hid hr
  have HS := Lib.hid hs
  have HL := Lib.hid hlen
  clear hr hm hs hlen
  go_enter Tryz.func67, Tryz.ntmps67
  go_wp2_with fail
  refine HS.out.mono ?_
  rintro e w' ⟨rfl, rfl⟩
  go_wp2_with fail
  refine (pgrown _ _ _ m l _ HR.out (by omega)).mono ?_
  rintro e w1 ⟨rfl, hb1, hbl1, hsz1⟩
  go_wp2_with fail
  refine (play w.heap.size len m _ n _ _ h2 HM.out.symm hb1 (by simp [HL.out]) (by omega)).mono ?_
  rintro e w2 ⟨rfl, hb2, hu2⟩
  rw [splice_end l m len _ HL.out HM.out] at hb2
  go_wp2_with fail
  go_ret
  exact ⟨rfl, hb2, hbl1.trans (hu2.below (Nat.le_refl _)), by rw [hu2.size, hsz1]⟩


set_option maxHeartbeats 1000000 in
theorem ptext (a : Option Addr) (len cap : Nat) (s : ByteArray) (l : List UInt8) (w : World) (hr : Rd w a len cap l) (hs : s.size ≤ 70000000000000) (hmax : len ≤ 70000000000000) :
    Calls Tryz.prog 68 #[.slice a len cap, .string s] w fun e w' => e = .returned (.slice (some ⟨w.heap.size, 0, none⟩) (len + ((enc s.size).length + s.size)) (len + ((enc s.size).length + s.size))) ∧ Blk w' w.heap.size (l ++ (enc s.size ++ s.data.toList)) ∧ Below w.heap.size w w' ∧ w'.heap.size = w.heap.size + 1 := by
  have hl9 := P.enc_len s.size (by omega)
  have hl1 := P.enc_len_pos s.size
  have hlen := hr.hlen
  obtain ⟨m, hm⟩ : ∃ m : Nat, (enc s.size).length = m := ⟨_, rfl⟩
  rw [hm] at hl9 hl1 ⊢
  have hsz : ∀ W, Calls Tryz.prog 88 #[.int .i64 (s.size : Int)] W fun e w' => e = .returned (.int .i64 (m : Int)) ∧ W = w' := fun W => by
    have := psize (s.size : Int) W (by omega); rw [Int.toNat_natCast, hm] at this; exact this
  have HM := Lib.hid hm
  have HR := Lib.hid hr
  have HS := Lib.hid hsz
  have HL := Lib.hid hlen
  clear hr hm hsz hlen
  go_enter Tryz.func68, Tryz.ntmps68
  go_wp2_with fail
  refine (HS.out _).mono ?_
  rintro e w' ⟨rfl, rfl⟩
  go_wp2_with fail
  refine (HS.out _).mono ?_
  rintro e w' ⟨rfl, rfl⟩
  go_wp2_with fail
  refine (pgrown _ _ _ (m + s.size) l _ HR.out (by omega)).mono ?_
  rintro e w1 ⟨rfl, hb1, hbl1, hsz1⟩
  go_wp2_with fail
  refine (play w.heap.size len m _ (s.size : Int) _ _ (by omega) (by rw [Int.toNat_natCast]; exact HM.out.symm) hb1 (by simp [HL.out]) (by omega)).mono ?_
  rw [Int.toNat_natCast]
  rintro e w2 ⟨rfl, hb2, hu2⟩
  have e2 : splice (l ++ List.replicate (m + s.size) 0) len (enc s.size) = l ++ (enc s.size ++ List.replicate s.size 0) := by
    have h1 := HL.out
    have h2 := HM.out
    subst h1; rw [splice, h2]; simp
  rw [e2] at hb2
  clear e2
  have hlen2 : (l ++ (enc s.size ++ List.replicate s.size 0)).length = len + (m + s.size) := by simp [HL.out, HM.out]
  have e3 : splice (l ++ (enc s.size ++ List.replicate s.size 0)) (len + m) s.data.toList = l ++ (enc s.size ++ s.data.toList) := by
    have h1 := HL.out
    have h2 := HM.out
    have h3 : s.data.toList.length = s.size := by simp
    subst h1; unfold splice
    rw [h3, List.take_append, List.drop_append]
    rw [show l.length + m - l.length = m by omega, show l.length + m + s.size - l.length = m + s.size by omega, List.take_of_length_le (by omega), List.drop_eq_nil_of_le (by omega), List.take_left' h2, List.drop_eq_nil_of_le (by simp [h2])]
    simp
  have E3 := Lib.hid e3
  have HLEN2 := Lib.hid hlen2
  clear e3 hlen2
  have hbl2 : Below w.heap.size w w2 := hbl1.trans (hu2.below (Nat.le_refl _))
  have hsz2 : w2.heap.size = w.heap.size + 1 := by rw [hu2.size, hsz1]
  have HSZ2 := Lib.hid hsz2
  clear hbl1 hu2 hsz1 hsz2
  by_cases h0 : s.size ≤ 0
  · go_wp2_with (with_reducible refine copy_str rfl _ _ rfl _ _ _ s rfl rfl w.heap.size (len + m) _ hb2 (by omega) (fun h => by omega) (by rw [HLEN2.out]; omega) ?_; intro w3 hb3 hu3; rw [E3.out] at hb3)
    go_ret
    exact ⟨rfl, hb3, hbl2.trans (hu3.below (Nat.le_refl _)), by rw [hu3.size, HSZ2.out]⟩
  · go_wp2_with (with_reducible refine copy_str rfl _ _ rfl _ _ _ s rfl rfl w.heap.size (len + m) _ hb2 (by omega) (fun _ => rfl) (by rw [HLEN2.out]; omega) ?_; intro w3 hb3 hu3; rw [E3.out] at hb3)
    go_ret
    exact ⟨rfl, hb3, hbl2.trans (hu3.below (Nat.le_refl _)), by rw [hu3.size, HSZ2.out]⟩


/-! ### the reference -/
set_option maxHeartbeats 400000 in
theorem rcopied (a : Option Addr) (len cap : Nat) (l : List UInt8) (w : World) (hr : Rd w a len cap l) (hmax : len ≤ 140737488355000) :
    Calls Tryz.prog 30 #[.slice a len cap] w fun e w' => ∃ v, e = .returned v ∧ Fr w' w.heap.size v l ∧ Below w.heap.size w w' := by
  have HR := Lib.hid hr
  clear hr
  go_enter Tryz.func30, Tryz.ntmps30
  go_wp2_with (at_builtin; refine append_rd rfl _ _ rfl w.heap.size _ [] rfl (Fr.nil _ _) _ _ _ l rfl HR.out (by simp; omega) (Nat.le_refl _) ?_; intro v1 w1 hf1 hb1 _)
  go_ret
  exact ⟨_, rfl, hf1, hb1⟩

/-- one byte in new memory -/
theorem rd_new1 (w : World) (x : UInt8) (v : Value) (t : TypeId) (hv : v = B x) : Rd (w.alloc (.cells #[v] t)) (some ⟨w.heap.size, 0, none⟩) 1 1 [x] := by
  subst hv
  refine ⟨rfl, by omega, by omega, (fun h => by cases h), .inr ⟨_, 0, rfl, by simp, fun i hi => ?_⟩⟩
  obtain rfl : i = 0 := by omega
  rw [cell_of_row _ w.heap.size 0 _ t _ (heap_alloc_new w (.cells #[B x] t))]; rfl


/-- a row of the call's own, all of it -/
theorem fr_new1 (w : World) (base : Nat) (x : UInt8) (v : Value) (hv : v = B x) (hb : base ≤ w.heap.size) : Fr (w.alloc (.cells #[v] 5)) base (.slice (some ⟨w.heap.size, 0, none⟩) 1 1) [x] := by
  subst hv
  exact ⟨rfl, .inr ⟨w.heap.size, 1, #[B x], rfl, hb, heap_alloc_new w _, Nat.le_refl _, by decide, rfl, rfl⟩⟩

theorem lo_cell (n m : Int) (h : 0 ≤ n) (hm : m = n % 128) : Value.int .u8 m = B (lo n.toNat) := by
  unfold B; rw [P.lo_nat]; exact vint (by omega)

set_option maxHeartbeats 1000000 in
theorem rgroups (k : Nat) : ∀ (n : Int) (w : World), n.toNat ≤ k → n ≤ 9223372036854775807 →
    Calls Tryz.prog 69 #[.int .i64 n] w fun e w' => ∃ v, e = .returned v ∧ Fr w' w.heap.size v (gr n.toNat) ∧ Below w.heap.size w w' := by
  induction k with
  | zero =>
    intro n w hk _
    have h0 : n ≤ 0 := by omega
    have hz : n.toNat = 0 := by omega
    rw [hz]
    clear hk hz
    by_cases hn : n < 0
    all_goals
      go_enter Tryz.func69, Tryz.ntmps69
      go_wp2_with fail
      go_ret
      refine ⟨_, rfl, ?_, (Below.refl _ _).alloc (Nat.le_refl _) _⟩
      rw [P.gr_lt (by omega)]
      refine fr_new1 w _ _ _ ?_ (Nat.le_refl _)
      exact lo_cell 0 _ (by omega) (by omega)
  | succ k ih =>
    intro n w hk hn
    by_cases hneg : n < 0
    · exact ih n w (by omega) hn
    · by_cases hlt : n < 128
      · go_enter Tryz.func69, Tryz.ntmps69
        go_wp2_with fail
        go_ret
        refine ⟨_, rfl, ?_, (Below.refl _ _).alloc (Nat.le_refl _) _⟩
        rw [P.gr_lt (by omega)]
        refine fr_new1 w _ _ _ ?_ (Nat.le_refl _)
        exact lo_cell _ _ hneg (by omega)
      · have hgr := P.gr_ge (n := n.toNat) (by omega)
        rw [show n.toNat / 128 = (n / 128).toNat by omega] at hgr
        have hgl := P.gr_len (n / 128).toNat
        have hg9 := P.enc_len (n / 128).toNat (by omega)
        rw [← hgl] at hg9
        have HG := Lib.hid hgr
        clear hgr hgl
        have ih' := ih (n / 128)
        have IH := Lib.hid ih'
        clear ih ih'
        go_enter Tryz.func69, Tryz.ntmps69
        go_wp2_with fail
        refine (IH.out _ (by omega) (by omega)).mono ?_
        rintro e w1 ⟨v, rfl, hf1, hb1⟩
        have hs1 := hb1.size
        go_wp2_with (at_builtin; refine append_rd rfl _ _ rfl w.heap.size _ (gr (n / 128).toNat) rfl (hf1.alloc _) _ _ _ [lo n.toNat] rfl (rd_new1 w1 (lo n.toNat) _ _ ?h1) (by omega) (by simp; omega) ?_; rotate_left; intro v2 w2 hf2 hb2 _)
        · go_ret
          refine ⟨_, rfl, ?_, (hb1.alloc hs1 _).trans hb2⟩
          rw [HG.out]; exact hf2
        · exact lo_cell _ _ (by omega) rfl

end Go.Proofs.YtjolmjbhpokgmaaGreat.W

namespace Go.Proofs.YtjolmjbhpokgmaaGreat.W
open Go.ChangeShapes Go.WideShapes Go.ChangeAt Go.RowKit
open Go.Proofs.YtjolmjbhpokgmaaGreat.P (mk lo hi enc tl gr up)


theorem set_mid (p : List UInt8) (x y : UInt8) (r : List UInt8) (j : Nat) (h : p.length = j) : (p ++ x :: r).set j y = p ++ y :: r := by
  subst h; simp

set_option maxHeartbeats 1000000 in
theorem rnum (a : Option Addr) (len cap : Nat) (n : Int) (l : List UInt8) (w : World) (hr : Rd w a len cap l) (h2 : n ≤ 9223372036854775807) (hmax : len ≤ 140737488355000) :
    Calls Tryz.prog 44 #[.slice a len cap, .int .i64 n] w fun e w' => ∃ v, e = .returned v ∧ Fr w' w.heap.size v (l ++ enc n.toNat) ∧ Below w.heap.size w w' := by
  have hgl := P.gr_len n.toNat
  have hg9 := P.enc_len n.toNat (by omega)
  rw [← hgl] at hg9
  obtain ⟨p, hp1, hp2⟩ := P.gr_split n.toNat
  have hsm := P.gr_small n.toNat
  have hgr := rgroups n.toNat n w (Nat.le_refl _) h2
  rw [hp1] at hgr hg9 hsm
  have hpl : p.length ≤ 8 := by simp at hg9; omega
  obtain ⟨lst, hlst⟩ : ∃ lst, lo n.toNat = lst := ⟨_, rfl⟩
  rw [hlst] at hgr hp2 hsm
  have hlen := hr.hlen
  have HL := Lib.hid hlen
  have HSM := Lib.hid hsm
  have HP2 := Lib.hid hp2
  have HGR := Lib.hid hgr
  have HR := Lib.hid hr
  clear hgl hg9 hp1 hp2 hgr hr hlst hsm hlen
  obtain ⟨m, hm⟩ : ∃ m : Nat, p.length = m := ⟨_, rfl⟩
  have HM := Lib.hid hm
  rw [hm] at hpl
  clear hm
  go_enter Tryz.func44, Tryz.ntmps44
  go_wp2_with fail
  refine HGR.out.mono ?_
  rintro e w1 ⟨v, rfl, hf1, hb1⟩
  obtain ⟨g, gc, hv, hle, hg, hlt⟩ := hf1.pos (by simp)
  have hgl : (p ++ [lst]).length = m + 1 := by simp [HM.out]
  rw [hgl] at hv hle
  rw [hv] at hf1 ⊢
  have HF1 := Lib.hid hf1
  clear hv hf1 hgl
  go_wp2_with fail
  go_loopw [6] (fun i wr => ∃ (j : Nat), i = .int .i64 j ∧ j ≤ m ∧ Hid (Fr wr w.heap.size (.slice (some ⟨g, 0, none⟩) (m + 1) gc) ((p.take j).map up ++ (p.drop j ++ [lst]))) ∧ Below w.heap.size w wr ∧ g < wr.heap.size) (fun i _ => m - (intOf i).toNat)
  case atStart => exact ⟨0, rfl, Nat.zero_le _, Lib.hid (by simpa using HF1.out), hb1, hlt⟩
  case round =>
    obtain ⟨j, rfl, hj, HF, hbr, hgr⟩ := hrel
    by_cases hjm : j < m
    · have hm := HM.out
      have hf := HF.out
      have hjp : j < p.length := by omega
      have hd : p.drop j = p[j] :: p.drop (j + 1) := List.drop_eq_getElem_cons hjp
      have hx := HSM.out p[j] (by simp)
      have htk : (p.take (j + 1)).map up = (p.take j).map up ++ [up p[j]] := by rw [List.take_succ_eq_append_getElem hjp, List.map_append]; rfl
      generalize p[j] = x at *
      rw [hd] at hf
      have hll : m + 1 = ((p.take j).map up ++ (x :: p.drop (j + 1) ++ [lst])).length := by simp; omega
      have hc := hf.cellAt j (by omega) hll
      have hfz := hf.frozenAt j hll
      have hset := hf.set j (up x) hll
      have htl : ((p.take j).map up).length = j := by simp; omega
      rw [show ((p.take j).map up ++ (x :: p.drop (j + 1) ++ [lst])).getD j 0 = x by rw [List.getD_eq_getElem?_getD, List.getElem?_append_right (by omega), htl]; simp] at hc
      rw [List.cons_append, set_mid _ _ _ _ _ htl] at hset
      have hval : Value.int .u8 ((x.toNat : Int) + 128) = B (up x) := by
        unfold B up; rw [UInt8.toNat_ofNat']; exact vint (by omega)
      have HSET := Lib.hid hset
      have HTK := Lib.hid htk
      have HV := Lib.hid hval
      have hx0 : (x.toNat : Int) < 128 := by omega
      clear hm hf hjp hd hx htk hll hset htl hval
      unfold B at hc
      go_wp2_with fail
      go_roundw
      case rel =>
        refine ⟨j + 1, by go_num, by omega, Lib.hid ?_, hbr.trans ((Upd.setCell _ _ _ _).below hg), by rw [(Upd.setCell wr _ _ _).size]; exact hgr⟩
        rw [HV.out, HTK.out, List.append_assoc]; exact HSET.out
      case measure => simp [intOf]; omega
    · obtain rfl : j = m := by omega
      have hf := HF.out
      rw [List.take_of_length_le (by rw [HM.out]; omega), List.drop_eq_nil_of_le (by rw [HM.out]; omega), List.nil_append, ← HP2.out] at hf
      obtain ⟨ga, gc2, hv, hrd, -⟩ := hf.form
      have h9 := P.enc_len n.toNat (by omega)
      have hel : (enc n.toNat).length = j + 1 := by rw [HP2.out]; simp [HM.out]
      rw [hel] at hrd hv
      simp only [Value.slice.injEq, true_and] at hv
      obtain ⟨rfl, rfl⟩ := hv
      have hsz := hbr.size
      have HRD := Lib.hid hrd
      have HEL := Lib.hid hel
      have hll := HL.out
      have HRR := Lib.hid (HR.out.mono hbr)
      clear hf h9 hel hrd hll
      go_wp2_with fail
      refine (rcopied _ _ _ l _ HRR.out hmax).mono ?_
      rintro e w2 ⟨v2, rfl, hf2, hb2⟩
      have hs2 := hb2.size
      have HRD2 := Lib.hid (HRD.out.mono hb2)
      go_wp2_with (at_builtin; refine append_rd rfl _ _ rfl wr.heap.size _ l rfl hf2 _ _ _ (enc n.toNat) rfl HRD2.out (by rw [HL.out]; omega) (by omega) ?_; intro v3 w3 hf3 hb3 _)
      go_ret
      exact ⟨_, rfl, hf3.base hsz, hbr.trans ((hb2.trans hb3).mono hsz)⟩


set_option maxHeartbeats 400000 in
theorem rtext (a : Option Addr) (len cap : Nat) (s : ByteArray) (l : List UInt8) (w : World) (hr : Rd w a len cap l) (hs : s.size ≤ 70000000000000) (hmax : len ≤ 70000000000000) :
    Calls Tryz.prog 45 #[.slice a len cap, .string s] w fun e w' => ∃ v, e = .returned v ∧ Fr w' w.heap.size v (l ++ (enc s.size ++ s.data.toList)) ∧ Below w.heap.size w w' := by
  have hn := rnum a len cap (s.size : Int) l w hr (by omega) (by omega)
  rw [Int.toNat_natCast] at hn
  have h9 := P.enc_len s.size (by omega)
  have hl := hr.hlen
  have HN := Lib.hid hn
  have H9 := Lib.hid h9
  have HL := Lib.hid hl
  clear hn hr h9 hl
  go_enter Tryz.func45, Tryz.ntmps45
  go_wp2_with fail
  refine HN.out.mono ?_
  rintro e w1 ⟨v, rfl, hf1, hb1⟩
  have hs1 := hb1.size
  go_wp2_with (at_builtin; refine append_str rfl _ _ rfl w.heap.size _ (l ++ enc s.size) rfl hf1 s rfl (by have := HL.out; have := H9.out; simp; omega) hs1 ?_; intro v2 w2 hf2 hb2 _)
  go_ret
  refine ⟨_, rfl, ?_, hb1.trans hb2⟩
  rw [← List.append_assoc]; exact hf2

/-! ### the library's -/





end Go.Proofs.YtjolmjbhpokgmaaGreat.W
