/- CONTRACTS of layer 2 (pack): what writes bytes, the second part. -/
import Derived.Test.YtagblhkihammdaaPackW
namespace Go.Proofs.Ytagblhkihammdaa.W
open Go.ChangeShapes Go.WideShapes Go.ChangeAt Go.RowKit
open Go.Proofs.Ytagblhkihammdaa.P (mk lo hi enc tl gr up)

theorem splice_end (l : List UInt8) (m len : Nat) (e : List UInt8) (h : l.length = len) (he : e.length = m) : splice (l ++ List.replicate m 0) len e = l ++ e := by
  subst h; subst he; simp [splice]

set_option maxHeartbeats 400000 in
theorem pnum (a : Option Addr) (len cap : Nat) (n : Int) (l : List UInt8) (w : World) (hr : Rd w a len cap l) (h2 : n ≤ 9223372036854775807) (hmax : len ≤ 140737488355000) :
    Calls Try.prog 29 #[.slice a len cap, .int .i64 n] w fun e w' => e = .returned (.slice (some ⟨w.heap.size, 0, none⟩) (len + (enc n.toNat).length) (len + (enc n.toNat).length)) ∧ Blk w' w.heap.size (l ++ enc n.toNat) ∧ Below w.heap.size w w' ∧ w'.heap.size = w.heap.size + 1 := by
  have hl9 := P.enc_len n.toNat (by omega)
  have hl1 := P.enc_len_pos n.toNat
  have hlen := hr.hlen
  obtain ⟨m, hm⟩ : ∃ m : Nat, (enc n.toNat).length = m := ⟨_, rfl⟩
  rw [hm] at hl9 hl1
  have hs := psize n w h2
  rw [hm] at hs ⊢
  have HM := Lib.hid hm
  have HR := Lib.hid hr
  have HS := Lib.hid hs
  have HL := Lib.hid hlen
  clear hr hm hs hlen
  go_enter Try.func29, Try.ntmps29
  go_wp2_with fail
  refine HS.out.mono ?_
  rintro e w' ⟨rfl, rfl⟩
  go_wp2_with fail
  refine (pgrown _ _ _ m l _ HR.out (by omega)).mono ?_
  rintro e w1 ⟨rfl, hb1, hbl1, hsz1⟩
  go_wp2_with fail
  refine (play w.heap.size len m _ n _ _ h2 HM.out.symm hb1 (by simp [HL.out]) (by omega)).mono ?_
  rintro e w2 ⟨rfl, hb2, hu2⟩
  rw [splice_end l m len _ HL.out HM.out] at hb2
  go_wp2_with fail
  go_ret
  exact ⟨rfl, hb2, hbl1.trans (hu2.below (Nat.le_refl _)), by rw [hu2.size, hsz1]⟩


set_option maxHeartbeats 1000000 in
theorem ptext (a : Option Addr) (len cap : Nat) (s : ByteArray) (l : List UInt8) (w : World) (hr : Rd w a len cap l) (hs : s.size ≤ 70000000000000) (hmax : len ≤ 70000000000000) :
    Calls Try.prog 30 #[.slice a len cap, .string s] w fun e w' => e = .returned (.slice (some ⟨w.heap.size, 0, none⟩) (len + ((enc s.size).length + s.size)) (len + ((enc s.size).length + s.size))) ∧ Blk w' w.heap.size (l ++ (enc s.size ++ s.data.toList)) ∧ Below w.heap.size w w' ∧ w'.heap.size = w.heap.size + 1 := by
  have hl9 := P.enc_len s.size (by omega)
  have hl1 := P.enc_len_pos s.size
  have hlen := hr.hlen
  obtain ⟨m, hm⟩ : ∃ m : Nat, (enc s.size).length = m := ⟨_, rfl⟩
  rw [hm] at hl9 hl1 ⊢
  have hsz : ∀ W, Calls Try.prog 52 #[.int .i64 (s.size : Int)] W fun e w' => e = .returned (.int .i64 (m : Int)) ∧ W = w' := fun W => by
    have := psize (s.size : Int) W (by omega); rw [Int.toNat_natCast, hm] at this; exact this
  have HM := Lib.hid hm
  have HR := Lib.hid hr
  have HS := Lib.hid hsz
  have HL := Lib.hid hlen
  clear hr hm hsz hlen
  go_enter Try.func30, Try.ntmps30
  go_wp2_with fail
  refine (HS.out _).mono ?_
  rintro e w' ⟨rfl, rfl⟩
  go_wp2_with fail
  refine (HS.out _).mono ?_
  rintro e w' ⟨rfl, rfl⟩
  go_wp2_with fail
  refine (pgrown _ _ _ (m + s.size) l _ HR.out (by omega)).mono ?_
  rintro e w1 ⟨rfl, hb1, hbl1, hsz1⟩
  go_wp2_with fail
  refine (play w.heap.size len m _ (s.size : Int) _ _ (by omega) (by rw [Int.toNat_natCast]; exact HM.out.symm) hb1 (by simp [HL.out]) (by omega)).mono ?_
  rw [Int.toNat_natCast]
  rintro e w2 ⟨rfl, hb2, hu2⟩
  have e2 : splice (l ++ List.replicate (m + s.size) 0) len (enc s.size) = l ++ (enc s.size ++ List.replicate s.size 0) := by
    have h1 := HL.out
    have h2 := HM.out
    subst h1; rw [splice, h2]; simp
  rw [e2] at hb2
  clear e2
  have hlen2 : (l ++ (enc s.size ++ List.replicate s.size 0)).length = len + (m + s.size) := by simp [HL.out, HM.out]
  have e3 : splice (l ++ (enc s.size ++ List.replicate s.size 0)) (len + m) s.data.toList = l ++ (enc s.size ++ s.data.toList) := by
    have h1 := HL.out
    have h2 := HM.out
    have h3 : s.data.toList.length = s.size := by simp
    subst h1; unfold splice
    rw [h3, List.take_append, List.drop_append]
    rw [show l.length + m - l.length = m by omega, show l.length + m + s.size - l.length = m + s.size by omega, List.take_of_length_le (by omega), List.drop_eq_nil_of_le (by omega), List.take_left' h2, List.drop_eq_nil_of_le (by simp [h2])]
    simp
  have E3 := Lib.hid e3
  have HLEN2 := Lib.hid hlen2
  clear e3 hlen2
  have hbl2 : Below w.heap.size w w2 := hbl1.trans (hu2.below (Nat.le_refl _))
  have hsz2 : w2.heap.size = w.heap.size + 1 := by rw [hu2.size, hsz1]
  have HSZ2 := Lib.hid hsz2
  clear hbl1 hu2 hsz1 hsz2
  by_cases h0 : s.size ≤ 0
  · go_wp2_with (with_reducible refine copy_str rfl _ _ rfl _ _ _ s rfl rfl w.heap.size (len + m) _ hb2 (by omega) (fun h => by omega) (by rw [HLEN2.out]; omega) ?_; intro w3 hb3 hu3; rw [E3.out] at hb3)
    go_ret
    exact ⟨rfl, hb3, hbl2.trans (hu3.below (Nat.le_refl _)), by rw [hu3.size, HSZ2.out]⟩
  · go_wp2_with (with_reducible refine copy_str rfl _ _ rfl _ _ _ s rfl rfl w.heap.size (len + m) _ hb2 (by omega) (fun _ => rfl) (by rw [HLEN2.out]; omega) ?_; intro w3 hb3 hu3; rw [E3.out] at hb3)
    go_ret
    exact ⟨rfl, hb3, hbl2.trans (hu3.below (Nat.le_refl _)), by rw [hu3.size, HSZ2.out]⟩


/-! ### the reference -/
set_option maxHeartbeats 400000 in
theorem rcopied (a : Option Addr) (len cap : Nat) (l : List UInt8) (w : World) (hr : Rd w a len cap l) (hmax : len ≤ 140737488355000) :
    Calls Try.prog 40 #[.slice a len cap] w fun e w' => ∃ v, e = .returned v ∧ Fr w' w.heap.size v l ∧ Below w.heap.size w w' := by
  have HR := Lib.hid hr
  clear hr
  go_enter Try.func40, Try.ntmps40
  go_wp2_with (at_builtin; refine append_rd rfl _ _ rfl w.heap.size _ [] rfl (Fr.nil _ _) _ _ _ l rfl HR.out (by simp; omega) (Nat.le_refl _) ?_; intro v1 w1 hf1 hb1 _)
  go_ret
  exact ⟨_, rfl, hf1, hb1⟩

/-- one byte in new memory -/
theorem rd_new1 (w : World) (x : UInt8) (v : Value) (t : TypeId) (hv : v = B x) : Rd (w.alloc (.cells #[v] t)) (some ⟨w.heap.size, 0, none⟩) 1 1 [x] := by
  subst hv
  refine ⟨rfl, by omega, by omega, (fun h => by cases h), .inr ⟨_, 0, rfl, by simp, fun i hi => ?_⟩⟩
  obtain rfl : i = 0 := by omega
  rw [cell_of_row _ w.heap.size 0 _ t _ (heap_alloc_new w (.cells #[B x] t))]; rfl


/-- a row of the call's own, all of it -/
theorem fr_new1 (w : World) (base : Nat) (x : UInt8) (v : Value) (hv : v = B x) (hb : base ≤ w.heap.size) : Fr (w.alloc (.cells #[v] 5)) base (.slice (some ⟨w.heap.size, 0, none⟩) 1 1) [x] := by
  subst hv
  exact ⟨rfl, .inr ⟨w.heap.size, 1, #[B x], rfl, hb, heap_alloc_new w _, Nat.le_refl _, by decide, rfl, rfl⟩⟩

theorem lo_cell (n m : Int) (h : 0 ≤ n) (hm : m = n % 128) : Value.int .u8 m = B (lo n.toNat) := by
  unfold B; rw [P.lo_nat]; exact vint (by omega)

set_option maxHeartbeats 1000000 in
theorem rgroups (k : Nat) : ∀ (n : Int) (w : World), n.toNat ≤ k → n ≤ 9223372036854775807 →
    Calls Try.prog 55 #[.int .i64 n] w fun e w' => ∃ v, e = .returned v ∧ Fr w' w.heap.size v (gr n.toNat) ∧ Below w.heap.size w w' := by
  induction k with
  | zero =>
    intro n w hk _
    have h0 : n ≤ 0 := by omega
    have hz : n.toNat = 0 := by omega
    rw [hz]
    clear hk hz
    by_cases hn : n < 0
    all_goals
      go_enter Try.func55, Try.ntmps55
      go_wp2_with fail
      go_ret
      refine ⟨_, rfl, ?_, (Below.refl _ _).alloc (Nat.le_refl _) _⟩
      rw [P.gr_lt (by omega)]
      refine fr_new1 w _ _ _ ?_ (Nat.le_refl _)
      exact lo_cell 0 _ (by omega) (by omega)
  | succ k ih =>
    intro n w hk hn
    by_cases hneg : n < 0
    · exact ih n w (by omega) hn
    · by_cases hlt : n < 128
      · go_enter Try.func55, Try.ntmps55
        go_wp2_with fail
        go_ret
        refine ⟨_, rfl, ?_, (Below.refl _ _).alloc (Nat.le_refl _) _⟩
        rw [P.gr_lt (by omega)]
        refine fr_new1 w _ _ _ ?_ (Nat.le_refl _)
        exact lo_cell _ _ hneg (by omega)
      · have hgr := P.gr_ge (n := n.toNat) (by omega)
        rw [show n.toNat / 128 = (n / 128).toNat by omega] at hgr
        have hgl := P.gr_len (n / 128).toNat
        have hg9 := P.enc_len (n / 128).toNat (by omega)
        rw [← hgl] at hg9
        have HG := Lib.hid hgr
        clear hgr hgl
        have ih' := ih (n / 128)
        have IH := Lib.hid ih'
        clear ih ih'
        go_enter Try.func55, Try.ntmps55
        go_wp2_with fail
        refine (IH.out _ (by omega) (by omega)).mono ?_
        rintro e w1 ⟨v, rfl, hf1, hb1⟩
        have hs1 := hb1.size
        go_wp2_with (at_builtin; refine append_rd rfl _ _ rfl w.heap.size _ (gr (n / 128).toNat) rfl (hf1.alloc _) _ _ _ [lo n.toNat] rfl (rd_new1 w1 (lo n.toNat) _ _ ?h1) (by omega) (by simp; omega) ?_; rotate_left; intro v2 w2 hf2 hb2 _)
        · go_ret
          refine ⟨_, rfl, ?_, (hb1.alloc hs1 _).trans hb2⟩
          rw [HG.out]; exact hf2
        · exact lo_cell _ _ (by omega) rfl

end Go.Proofs.Ytagblhkihammdaa.W
