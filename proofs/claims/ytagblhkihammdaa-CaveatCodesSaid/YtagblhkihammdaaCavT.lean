/- CONTRACTS of layer 6 (caveat): a caveat's bytes. -/
import Derived.Test.YtagblhkihammdaaCavH2
import Derived.Test.YtagblhkihammdaaPackR5
namespace Go.Proofs.Ytagblhkihammdaa.W
open Go.ChangeShapes Go.WideShapes Go.ChangeAt Go.RowKit
open Go.Proofs.Ytagblhkihammdaa.P (enc)


/-- a caveat's bytes, if it may be -/
def tailL (p n : Int) (s : ByteArray) : List UInt8 := if p = 2 then enc s.size ++ s.data.toList else enc n.toNat
def putL (c : Cv) : List UInt8 := enc c.kind.toNat ++ tailL (partsV c.kind) c.num c.name
theorem name_short (s : ByteArray) (h : nameV s = true) : s.size ≤ 16 := by
  unfold nameV nameL at h
  simp at h
  exact h.2.1
theorem ok_two (c : Cv) (h : c.ok = true) (hp : partsV c.kind = 2) : nameV c.name = true := by
  unfold Cv.ok at h
  rw [hp] at h
  simp [fitsV] at h
  exact h.2

set_option maxRecDepth 100000 in
set_option maxHeartbeats 4000000 in
theorem cput_ok (c : Cv) (a : Option Addr) (len cap : Nat) (l : List UInt8) (w : World) (hc : c.fit) (hok : c.ok = true) (hr : Rd w a len cap l) (hmax : len ≤ 60000000000000) :
    Calls Try.prog 8 #[.slice a len cap, c.val] w fun e w' => ∃ g n, e = .returned (.slice (some ⟨g, 0, none⟩) n n) ∧ (l ++ putL c).length = n ∧ Blk w' g (l ++ putL c) ∧ Below w.heap.size w w' ∧ w.heap.size ≤ g := by
  have HC := Lib.hid hc
  have E := Lib.hid (show c.err = 0 from by unfold Cv.err; rw [hok]; rfl)
  obtain ⟨q1, q2⟩ := ok_in c hok
  have hshort := ok_two c hok
  have hll := hr.hlen
  obtain ⟨L, hL⟩ : ∃ L, l ++ putL c = L := ⟨_, rfl⟩
  rw [hL]
  have HL := Lib.hid hL
  have HR := Lib.hid hr
  clear hL hr hok
  obtain ⟨kind, num, name⟩ := c
  obtain ⟨⟨k1, k2⟩, ⟨m1, m2⟩, hs⟩ := hc
  simp only at k1 k2 m1 m2 q1 q2 hshort hs
  obtain ⟨pp, hp⟩ : ∃ pp, partsV kind = pp := ⟨_, rfl⟩
  have hP : pp = 1 ∨ pp = 2 := by have := parts_ne kind; have h0 := parts_zero kind; omega
  rw [hp] at hshort
  have E1 := Lib.hid hp
  have ek : (enc kind.toNat).length ≤ 9 := P.enc_len kind.toNat (by omega)
  have HLL := Lib.hid hll
  clear hp hll
  unfold putL tailL at HL
  rw [E1.out] at HL
  rcases hP with rfl | rfl
  · clear hshort hs
    have b1 : (bits .and .i64 1 1 != 0) = true := by decide
    have b2 : (bits .and .i64 1 2 != 0) = false := by decide
    go_enter Try.func8, Try.ntmps8
    go_wp2_with (first
      | (with_reducible refine box_row (o := ⟨some 3, _, _, _, _, _⟩) rfl _ _ rfl [.int .i64 kind, .int .i64 num, .string name] rfl ?_; intro w1 hr1 hb1 hz1; have HR1 := Lib.hid hr1; clear hr1; have HZ1 := Lib.hid hz1; clear hz1; have HB1 := Lib.hid hb1; clear hb1; have f0 := HR1.out.c0; have f1 := HR1.out.c1; have f2 := HR1.out.c2)
      | (go_at_call 23; refine (ccheck ⟨kind, num, name⟩ _ HC.out).mono ?_; rw [E.out]; rintro e w3 ⟨rfl, hb3⟩; have HRC := Lib.hid (HR1.out.below hb3 HR1.out.lt); have HB3 := Lib.hid (HB1.out.trans (hb3.mono HB1.out.size)); have HS3 := Lib.hid (show w.heap.size + 1 ≤ w3.heap.size from by have := HZ1.out; have := hb3.size; omega); clear f0 f1 f2 hb3; have f0 := HRC.out.c0; have f1 := HRC.out.c1; have f2 := HRC.out.c2)
      | (go_at_call 28; refine (cparts _ _).mono ?_; rw [E1.out]; rintro e w' ⟨rfl, rfl⟩))
    refine (pnum a len cap kind l w3 (HR.out.mono HB3.out) (by omega) (by omega)).mono ?_
    rintro e w4 ⟨rfl, hk4, hb4, hz4⟩
    obtain ⟨EK, hEK⟩ : ∃ EK, enc kind.toNat = EK := ⟨_, rfl⟩
    rw [hEK] at ek HL hk4 ⊢
    obtain ⟨n4, hn4⟩ : ∃ n4, len + EK.length = n4 := ⟨_, rfl⟩
    rw [hn4]
    have hl4 : (l ++ EK).length = n4 := by rw [List.length_append, HLL.out]; exact hn4
    have HK4 := Lib.hid (hk4.rd' n4 hl4 (by omega))
    have HB4 := Lib.hid (HB3.out.trans (hb4.mono HB3.out.size))
    have HR4 := Lib.hid (HRC.out.below hb4 HRC.out.lt)
    have HZ4 := Lib.hid hz4
    have HS4 := Lib.hid (show w.heap.size ≤ w4.heap.size from HB4.out.size)
    have HL4 := Lib.hid hl4
    have hn4' : n4 ≤ 60000000000009 := by omega
    clear f0 f1 f2 hk4 hb4 hz4 hl4 hEK hn4 ek
    have f0 := HR4.out.c0
    have f1 := HR4.out.c1
    have f2 := HR4.out.c2
    go_wp2_with fail
    refine (pnum (some ⟨w3.heap.size, 0, none⟩) n4 n4 num (l ++ EK) w4 HK4.out (by omega) (by omega)).mono ?_
    rintro e w5 ⟨rfl, hk5, hb5, hz5⟩
    have hLe : l ++ EK ++ enc num.toNat = L := by rw [← HL.out, List.append_assoc]; rfl
    have hlen : n4 + (enc num.toNat).length = L.length := by rw [← hLe, @List.length_append _ (l ++ EK) _, HL4.out]
    rw [hLe] at hk5
    rw [hlen]
    have HK5 := Lib.hid hk5
    have HB5 := Lib.hid (HB4.out.trans (hb5.mono HB4.out.size))
    clear hk5 hb5 hz5 hLe hlen
    go_wp2_with fail
    go_ret
    exact ⟨w4.heap.size, L.length, rfl, rfl, HK5.out, HB5.out, HS4.out⟩
  · have hsz := name_short name (hshort rfl)
    clear hshort hs
    have b1 : (bits .and .i64 2 1 != 0) = false := by decide
    have b2 : (bits .and .i64 2 2 != 0) = true := by decide
    go_enter Try.func8, Try.ntmps8
    go_wp2_with (first
      | (with_reducible refine box_row (o := ⟨some 3, _, _, _, _, _⟩) rfl _ _ rfl [.int .i64 kind, .int .i64 num, .string name] rfl ?_; intro w1 hr1 hb1 hz1; have HR1 := Lib.hid hr1; clear hr1; have HZ1 := Lib.hid hz1; clear hz1; have HB1 := Lib.hid hb1; clear hb1; have f0 := HR1.out.c0; have f1 := HR1.out.c1; have f2 := HR1.out.c2)
      | (go_at_call 23; refine (ccheck ⟨kind, num, name⟩ _ HC.out).mono ?_; rw [E.out]; rintro e w3 ⟨rfl, hb3⟩; have HRC := Lib.hid (HR1.out.below hb3 HR1.out.lt); have HB3 := Lib.hid (HB1.out.trans (hb3.mono HB1.out.size)); have HS3 := Lib.hid (show w.heap.size + 1 ≤ w3.heap.size from by have := HZ1.out; have := hb3.size; omega); clear f0 f1 f2 hb3; have f0 := HRC.out.c0; have f1 := HRC.out.c1; have f2 := HRC.out.c2)
      | (go_at_call 28; refine (cparts _ _).mono ?_; rw [E1.out]; rintro e w' ⟨rfl, rfl⟩))
    refine (pnum a len cap kind l w3 (HR.out.mono HB3.out) (by omega) (by omega)).mono ?_
    rintro e w4 ⟨rfl, hk4, hb4, hz4⟩
    obtain ⟨EK, hEK⟩ : ∃ EK, enc kind.toNat = EK := ⟨_, rfl⟩
    rw [hEK] at ek HL hk4 ⊢
    obtain ⟨n4, hn4⟩ : ∃ n4, len + EK.length = n4 := ⟨_, rfl⟩
    rw [hn4]
    have hl4 : (l ++ EK).length = n4 := by rw [List.length_append, HLL.out]; exact hn4
    have HK4 := Lib.hid (hk4.rd' n4 hl4 (by omega))
    have HB4 := Lib.hid (HB3.out.trans (hb4.mono HB3.out.size))
    have HR4 := Lib.hid (HRC.out.below hb4 HRC.out.lt)
    have HZ4 := Lib.hid hz4
    have HS4 := Lib.hid (show w.heap.size ≤ w4.heap.size from HB4.out.size)
    have HL4 := Lib.hid hl4
    have hn4' : n4 ≤ 60000000000009 := by omega
    clear f0 f1 f2 hk4 hb4 hz4 hl4 hEK hn4 ek
    have f0 := HR4.out.c0
    have f1 := HR4.out.c1
    have f2 := HR4.out.c2
    go_wp2_with fail
    refine (ptext (some ⟨w3.heap.size, 0, none⟩) n4 n4 name (l ++ EK) w4 HK4.out (by omega) (by omega)).mono ?_
    rintro e w5 ⟨rfl, hk5, hb5, hz5⟩
    have hLe : l ++ EK ++ (enc name.size ++ name.data.toList) = L := by rw [← HL.out, List.append_assoc]; rfl
    have hlen : n4 + ((enc name.size).length + name.size) = L.length := by rw [← hLe, @List.length_append _ (l ++ EK) _, HL4.out, List.length_append]; simp
    rw [hLe] at hk5
    rw [hlen]
    have HK5 := Lib.hid hk5
    have HB5 := Lib.hid (HB4.out.trans (hb5.mono HB4.out.size))
    clear hk5 hb5 hz5 hLe hlen
    go_wp2_with fail
    go_ret
    exact ⟨w4.heap.size, L.length, rfl, rfl, HK5.out, HB5.out, HS4.out⟩

end Go.Proofs.Ytagblhkihammdaa.W
