/- CONTRACTS of layer 6 (caveat): any caveat's bytes, and a list's, of both. CONTRACTS of layer 6 (caveat): a list's bytes, of both. -/
import Derived.Test.YtmacjpgeamlmhaaCavH
import Derived.Test.YtmacjpgeamlmhaaCavK
set_option linter.unusedSimpArgs false
set_option linter.unusedVariables false
namespace Go.Proofs.Ytmacjpgeamlmhaa.W
open Go.ChangeShapes Go.WideShapes Go.ChangeAt Go.RowKit
open Go.Proofs.Ytmacjpgeamlmhaa.P (enc)

set_option maxHeartbeats 1000000 in
theorem bclone (a : Option Addr) (len cap : Nat) (l : List UInt8) (w : World) (hr : Rd w a len cap l) (hmax : len ≤ 140737488355000) :
    Calls Try.prog 93 #[.slice a len cap] w fun e w' => ∃ v, e = .returned v ∧ Fr w' w.heap.size v l ∧ Below w.heap.size w w' := by
  have HR := Lib.hid hr
  have hnil := fun (w : World) (a : Option Addr) (n c : Nat) => Lib.run_eql_slice_nil (P := Try.prog) w 26 5 a n c 0 0 Try.underlying26
  rcases a with _ | ad
  · have h0 := hr.hnil rfl
    have h1 := hr.hle
    have h2 := hr.hlen
    obtain rfl : len = 0 := by omega
    have : l = [] := List.eq_nil_of_length_eq_zero h2
    subst this h0
    clear hr h1 h2
    go_enter Try.func93, Try.ntmps93
    go_wp2_with fail
    go_ret
    exact ⟨_, rfl, Fr.nil _ _, Below.refl _ _⟩
  · clear hr
    go_enter Try.func93, Try.ntmps93
    go_wp2_with (at_builtin; refine append_rd rfl _ _ rfl w.heap.size _ [] rfl (Fr.empty w _ (Nat.le_refl _)) _ _ _ l rfl (HR.out.mono ((Below.refl _ _).alloc (Nat.le_refl _) _)) (by simp; omega) (by simp) ?_; intro v2 w2 hf2 hb2 _)
    go_ret
    exact ⟨_, rfl, hf2, ((Below.refl _ _).alloc (Nat.le_refl _) _).trans hb2⟩

theorem putA_bad {c : Cv} (h : c.ok = false) : putA c = [] := by unfold putA; rw [if_neg (by rw [h]; decide)]
theorem putA_len (c : Cv) : (putA c).length ≤ 40 := by
  rcases h : c.ok with _ | _
  · rw [putA_bad h]; simp
  · rw [putA_ok h]
    have hp := ok_two c h
    obtain ⟨k1, k2⟩ := ok_kind h
    obtain ⟨n1, n2⟩ := ok_num h
    have hm := most_pos c.kind
    unfold putL tailL
    have e1 := P.enc_len c.kind.toNat (by omega)
    have e2 := P.enc_len c.num.toNat (by omega)
    rw [List.length_append]
    split
    · rename_i h2
      have e4 := name_short c.name (hp h2)
      have e3 := P.enc_len c.name.size (by omega)
      rw [List.length_append]
      have e5 : c.name.data.toList.length = c.name.size := by simp
      omega
    · omega
theorem flat_len (L : List Cv) : (L.flatMap putA).length ≤ 40 * L.length := by
  induction L with
  | nil => simp
  | cons c t ih =>
    have := putA_len c
    rw [List.flatMap_cons, List.length_append, List.length_cons]; omega

set_option maxRecDepth 100000 in
set_option maxHeartbeats 1000000 in
theorem cput_bad (c : Cv) (a : Option Addr) (len cap : Nat) (l : List UInt8) (w : World) (hc : c.fit) (hok : c.ok = false) (hr : Rd w a len cap l) (hmax : len ≤ 60000000000000) :
    Calls Try.prog 64 #[.slice a len cap, c.val] w fun e w' => ∃ v, e = .returned v ∧ Fr w' w.heap.size v l ∧ Below w.heap.size w w' := by
  have HC := Lib.hid hc
  have E := Lib.hid (show c.err = 1 from by unfold Cv.err; rw [hok]; rfl)
  have HR := Lib.hid hr
  clear hr hok
  obtain ⟨kind, num, name⟩ := c
  clear hc
  go_enter Try.func64, Try.ntmps64
  go_wp2_with (first
      | (with_reducible refine box_row (o := ⟨some 3, _, _, _, _, _⟩) rfl _ _ rfl [.int .i64 kind, .int .i64 num, .string name] rfl ?_; intro w1 hr1 hb1 hz1; have HR1 := Lib.hid hr1; clear hr1; have HZ1 := Lib.hid hz1; clear hz1; have HB1 := Lib.hid hb1; clear hb1; have f0 := HR1.out.c0; have f1 := HR1.out.c1; have f2 := HR1.out.c2)
      | (go_at_call 76; refine (ccheck ⟨kind, num, name⟩ _ HC.out).mono ?_; rw [E.out]; rintro e w3 ⟨rfl, hb3⟩; have HB3 := Lib.hid (HB1.out.trans (hb3.mono HB1.out.size)); clear f0 f1 f2 hb3))
  refine (bclone a len cap l w3 (HR.out.mono HB3.out) (by omega)).mono ?_
  rintro e w4 ⟨v, rfl, hf, hb⟩
  have HF := Lib.hid hf
  have HB := Lib.hid hb
  clear hf hb
  go_wp2_with fail
  go_ret
  exact ⟨v, rfl, HF.out.base HB3.out.size, HB3.out.trans (HB.out.mono HB3.out.size)⟩

theorem cput_any (c : Cv) (a : Option Addr) (len cap : Nat) (l : List UInt8) (w : World) (hc : c.fit) (hr : Rd w a len cap l) (hmax : len ≤ 60000000000000) :
    Calls Try.prog 64 #[.slice a len cap, c.val] w fun e w' => ∃ v, e = .returned v ∧ Fr w' w.heap.size v (l ++ putA c) ∧ Below w.heap.size w w' := by
  rcases h : c.ok with _ | _
  · rw [putA_bad h, List.append_nil]
    exact cput_bad c a len cap l w hc h hr hmax
  · have hl := hr.hlen
    have hp := putA_len c
    rw [putA_ok h] at hp ⊢
    refine (cput_ok c a len cap l w hc h hr hmax).mono ?_
    rintro e w' ⟨g, n, rfl, hn, hk, hb, hg⟩
    subst hn
    exact ⟨_, rfl, hk.fr hg (by rw [List.length_append]; omega), hb⟩

theorem named_two (k : Int) (h : partsV k ≠ 0) : namedV k = decide (partsV k = 2) := by
  rcases parts_any k with ⟨rfl, e1, e2⟩ | ⟨rfl, e1, e2⟩ | ⟨rfl, e1, e2⟩ | ⟨rfl, e1, e2⟩ | ⟨rfl, e1, e2⟩ | ⟨rfl, e1, e2⟩ | ⟨hk, n1, n2, n3, n4, n5, n6, e1, e2⟩
  all_goals first | (exact absurd e1 h) | (rw [e1]; decide)

set_option maxRecDepth 100000 in
set_option maxHeartbeats 1000000 in
theorem uput_any (c : Cv) (a : Option Addr) (len cap : Nat) (l : List UInt8) (w : World) (hc : c.fit) (hr : Rd w a len cap l) (hmax : len ≤ 60000000000000) :
    Calls Try.prog 72 #[.slice a len cap, c.val] w fun e w' => ∃ v, e = .returned v ∧ Fr w' w.heap.size v (l ++ putA c) ∧ Below w.heap.size w w' := by
  have HC := Lib.hid hc
  have HR := Lib.hid hr
  have hll := hr.hlen
  rcases hok : c.ok with _ | _
  · rw [putA_bad hok, List.append_nil]
    have E := Lib.hid (show c.err = 1 from by unfold Cv.err; rw [hok]; rfl)
    clear hr hok
    obtain ⟨kind, num, name⟩ := c
    clear hc
    go_enter Try.func72, Try.ntmps72
    go_wp2_with (first
      | (with_reducible refine box_row (o := ⟨some 3, _, _, _, _, _⟩) rfl _ _ rfl [.int .i64 kind, .int .i64 num, .string name] rfl ?_; intro w1 hr1 hb1 hz1; have HR1 := Lib.hid hr1; clear hr1; have HZ1 := Lib.hid hz1; clear hz1; have HB1 := Lib.hid hb1; clear hb1; have f0 := HR1.out.c0; have f1 := HR1.out.c1; have f2 := HR1.out.c2)
      | (go_at_call 46; refine (ucheck ⟨kind, num, name⟩ _ HC.out).mono ?_; rw [E.out]; rintro e w3 ⟨rfl, hb3⟩; have HB3 := Lib.hid (HB1.out.trans (hb3.mono HB1.out.size)); clear f0 f1 f2 hb3)
      | (at_builtin; refine append_rd rfl _ _ rfl w3.heap.size _ [] rfl (Fr.nil _ _) _ _ _ l rfl (HR.out.mono HB3.out) (by simp; omega) (Nat.le_refl _) ?_; intro v4 w4 hf4 hb4 _; rw [List.nil_append] at hf4; have HF4 := Lib.hid hf4; have HB4 := Lib.hid hb4; clear hf4 hb4))
    go_ret
    exact ⟨_, rfl, HF4.out.base HB3.out.size, HB3.out.trans (HB4.out.mono HB3.out.size)⟩
  · have hp40 := putA_len c
    rw [putA_ok hok] at hp40 ⊢
    have E := Lib.hid (show c.err = 0 from by unfold Cv.err; rw [hok]; rfl)
    have hpp := ok_parts hok
    have hkk := ok_kind hok
    have hnm := ok_num hok
    have hmp := most_pos c.kind
    have h2 := ok_two c hok
    have hnd := named_two c.kind (by omega)
    obtain ⟨L, hL⟩ : ∃ L, l ++ putL c = L := ⟨_, rfl⟩
    rw [hL]
    have HL := Lib.hid hL
    have hLlen : L.length ≤ len + 40 := by rw [← hL, List.length_append]; omega
    clear hr hok hL hp40
    obtain ⟨kind, num, name⟩ := c
    simp only at hpp hkk hnm hmp h2 hnd
    clear hc
    unfold putL tailL at HL
    have ek := P.enc_len kind.toNat (by omega)
    have HLL := Lib.hid hll
    rcases hpp with hpp | hpp
    · rw [hpp] at hnd h2
      have HN := Lib.hid (show namedV kind = false by rw [hnd]; decide)
      have HL2 := Lib.hid (show l ++ (enc kind.toNat ++ enc num.toNat) = L by have := HL.out; simp only [hpp] at this; rw [if_neg (by decide)] at this; exact this)
      clear hnd hpp h2 hll HL
      go_enter Try.func72, Try.ntmps72
      go_wp2_with (first
        | (with_reducible refine box_row (o := ⟨some 3, _, _, _, _, _⟩) rfl _ _ rfl [.int .i64 kind, .int .i64 num, .string name] rfl ?_; intro w1 hr1 hb1 hz1; have HR1 := Lib.hid hr1; clear hr1; have HZ1 := Lib.hid hz1; clear hz1; have HB1 := Lib.hid hb1; clear hb1; have f0 := HR1.out.c0; have f1 := HR1.out.c1; have f2 := HR1.out.c2)
        | (go_at_call 46; refine (ucheck ⟨kind, num, name⟩ _ HC.out).mono ?_; rw [E.out]; rintro e w3 ⟨rfl, hb3⟩; have HRC := Lib.hid (HR1.out.below hb3 HR1.out.lt); have HB3 := Lib.hid (HB1.out.trans (hb3.mono HB1.out.size)); clear f0 f1 f2 hb3; have f0 := HRC.out.c0; have f1 := HRC.out.c1; have f2 := HRC.out.c2))
      refine (rnum a len cap kind l w3 (HR.out.mono HB3.out) (by omega) (by omega)).mono ?_
      rintro e w4 ⟨v4, rfl, hf4, hb4⟩
      obtain ⟨a4, c4, hv4, hr4⟩ := hf4.form' (len + (enc kind.toNat).length) (by rw [List.length_append, HLL.out])
      subst hv4
      have HR4 := Lib.hid (HRC.out.below hb4 HRC.out.lt)
      have HRD4 := Lib.hid hr4
      have HB4 := Lib.hid (HB3.out.trans (hb4.mono HB3.out.size))
      clear f0 f1 f2 hf4 hb4 hr4
      have f0 := HR4.out.c0
      have f1 := HR4.out.c1
      have f2 := HR4.out.c2
      go_wp2_with (go_at_call 81; refine (unamed kind _).mono ?_; rw [HN.out]; rintro e w' ⟨rfl, rfl⟩)
      refine (rnum a4 (len + (enc kind.toNat).length) c4 num (l ++ enc kind.toNat) w4 HRD4.out (by omega) (by omega)).mono ?_
      rw [List.append_assoc, HL2.out]
      rintro e w5 ⟨v5, rfl, hf5, hb5⟩
      have HF5 := Lib.hid (hf5.base HB4.out.size)
      have HB5 := Lib.hid (HB4.out.trans (hb5.mono HB4.out.size))
      clear hf5 hb5
      go_wp2_with fail
      go_ret
      exact ⟨_, rfl, HF5.out, HB5.out⟩
    · rw [hpp] at hnd
      have hns := name_short name (h2 hpp)
      have HN := Lib.hid (show namedV kind = true by rw [hnd]; decide)
      have HL2 := Lib.hid (show l ++ (enc kind.toNat ++ (enc name.size ++ name.data.toList)) = L by have := HL.out; simp only [hpp] at this; rw [if_pos trivial] at this; exact this)
      clear hnd hpp h2 hll HL
      go_enter Try.func72, Try.ntmps72
      go_wp2_with (first
        | (with_reducible refine box_row (o := ⟨some 3, _, _, _, _, _⟩) rfl _ _ rfl [.int .i64 kind, .int .i64 num, .string name] rfl ?_; intro w1 hr1 hb1 hz1; have HR1 := Lib.hid hr1; clear hr1; have HZ1 := Lib.hid hz1; clear hz1; have HB1 := Lib.hid hb1; clear hb1; have f0 := HR1.out.c0; have f1 := HR1.out.c1; have f2 := HR1.out.c2)
        | (go_at_call 46; refine (ucheck ⟨kind, num, name⟩ _ HC.out).mono ?_; rw [E.out]; rintro e w3 ⟨rfl, hb3⟩; have HRC := Lib.hid (HR1.out.below hb3 HR1.out.lt); have HB3 := Lib.hid (HB1.out.trans (hb3.mono HB1.out.size)); clear f0 f1 f2 hb3; have f0 := HRC.out.c0; have f1 := HRC.out.c1; have f2 := HRC.out.c2))
      refine (rnum a len cap kind l w3 (HR.out.mono HB3.out) (by omega) (by omega)).mono ?_
      rintro e w4 ⟨v4, rfl, hf4, hb4⟩
      obtain ⟨a4, c4, hv4, hr4⟩ := hf4.form' (len + (enc kind.toNat).length) (by rw [List.length_append, HLL.out])
      subst hv4
      have HR4 := Lib.hid (HRC.out.below hb4 HRC.out.lt)
      have HRD4 := Lib.hid hr4
      have HB4 := Lib.hid (HB3.out.trans (hb4.mono HB3.out.size))
      clear f0 f1 f2 hf4 hb4 hr4
      have f0 := HR4.out.c0
      have f1 := HR4.out.c1
      have f2 := HR4.out.c2
      go_wp2_with (go_at_call 81; refine (unamed kind _).mono ?_; rw [HN.out]; rintro e w' ⟨rfl, rfl⟩)
      refine (rtext a4 (len + (enc kind.toNat).length) c4 name (l ++ enc kind.toNat) w4 HRD4.out (by omega) (by omega)).mono ?_
      rw [List.append_assoc, HL2.out]
      rintro e w5 ⟨v5, rfl, hf5, hb5⟩
      have HF5 := Lib.hid (hf5.base HB4.out.size)
      have HB5 := Lib.hid (HB4.out.trans (hb5.mono HB4.out.size))
      clear hf5 hb5
      go_wp2_with fail
      go_ret
      exact ⟨_, rfl, HF5.out, HB5.out⟩

end Go.Proofs.Ytmacjpgeamlmhaa.W

namespace Go.Proofs.Ytmacjpgeamlmhaa.W
open Go.ChangeShapes Go.WideShapes Go.ChangeAt Go.RowKit
open Go.Proofs.Ytmacjpgeamlmhaa.P (enc)

theorem flat_step (L : List Cv) (k : Nat) (h : k < L.length) : (L.take (k + 1)).flatMap putA = (L.take k).flatMap putA ++ putA (L.getD k default) := by
  rw [List.take_succ_eq_append_getElem h, List.flatMap_append]
  simp [h]

set_option maxRecDepth 100000 in
set_option maxHeartbeats 1000000 in
theorem ccode_any (a : Option Addr) (len cap : Nat) (L : List Cv) (w : World) (h : Cvs w a len cap L) (hmax : len ≤ 1000000) :
    Calls Try.prog 31 #[.slice a len cap] w fun e w' => ∃ v, e = .returned v ∧ Fr w' w.heap.size v (codeL L) ∧ Below w.heap.size w w' := by
  have HL := Lib.hid h.hlen
  have hm := h.hmax
  have hle := h.hle
  have H := Lib.hid h
  have el : (enc len).length ≤ 9 := P.enc_len len (by omega)
  obtain ⟨E, hE⟩ : ∃ E, enc len = E := ⟨_, rfl⟩
  rw [hE] at el
  have HE := Lib.hid hE
  have HEL := Lib.hid el
  clear h hE el
  go_enter Try.func31, Try.ntmps31
  go_wp2_with (first
    | (go_at_call 63; refine (pnum none 0 0 (len : Int) [] w (Rd_nil w) (by omega) (by omega)).mono ?_; rw [Int.toNat_natCast, HE.out, List.nil_append, Nat.zero_add]; rintro e w1 ⟨rfl, hk1, hb1, hz1⟩; have HF1 := Lib.hid (hk1.fr (Nat.le_refl _) (by have := HEL.out; omega)); have HB1 := Lib.hid hb1; clear hk1 hb1 hz1))
  have HF0 : Hid (Fr w1 w.heap.size (.slice (some ⟨w.heap.size, 0, none⟩) E.length E.length) (E ++ (L.take 0).flatMap putA)) := by
    apply Lib.hid
    simpa using HF1.out
  go_loopw [3, 11] (fun v i wr => ∃ (k n c : Nat) (x : Option Addr), v = .slice x n c ∧ i = .int .i64 (k : Int) ∧ k ≤ len ∧ Hid (Fr wr w.heap.size (.slice x n c) (E ++ (L.take k).flatMap putA)) ∧ Hid (Below w.heap.size w wr)) (fun _ i _ => len - (intOf i).toNat)
  case atStart => exact ⟨0, _, _, _, rfl, rfl, Nat.zero_le _, HF0, HB1⟩
  case round =>
    obtain ⟨k, n, c, x, rfl, rfl, hk, HF, HB⟩ := hrel
    by_cases hlt : k < len
    · obtain ⟨b, off, rfl, hblt, hcell⟩ := H.out.at (by omega)
      obtain ⟨x0, x1, x2⟩ := hcell k hlt
      have hfit := H.out.fitAt hlt
      have hst := flat_step L k (by rw [HL.out]; exact hlt)
      have hll := flat_len (L.take k)
      rcases hce : L.getD k default with ⟨kind, num, name⟩
      rw [hce] at x0 x1 x2 hfit hst
      simp only at x0 x1 x2
      rw [← HB.out.cell (p := ⟨b, off + k * 3, none⟩) hblt] at x0
      rw [← HB.out.cell (p := ⟨b, off + k * 3 + 1, none⟩) hblt] at x1
      rw [← HB.out.cell (p := ⟨b, off + k * 3 + 2, none⟩) hblt] at x2
      have HFIT := Lib.hid hfit
      have hpl := putA_len ⟨kind, num, name⟩
      obtain ⟨PA, hPA⟩ : ∃ PA, putA ⟨kind, num, name⟩ = PA := ⟨_, rfl⟩
      obtain ⟨DN, hDN⟩ : ∃ DN, (L.take k).flatMap putA = DN := ⟨_, rfl⟩
      rw [hPA] at hpl hst
      rw [hDN] at hst hll HF
      have HST := Lib.hid hst
      obtain ⟨n5, hn5⟩ : ∃ n, (E ++ (L.take (k + 1)).flatMap putA).length = n := ⟨_, rfl⟩
      have HN5 := Lib.hid hn5
      clear hn5
      have HPA := Lib.hid hPA
      have hlk : (L.take k).length ≤ k := by simp; omega
      have HBND := Lib.hid (show (E ++ DN).length + PA.length ≤ 100000000 by have := HEL.out; rw [List.length_append]; omega)
      have HPL := Lib.hid (show PA.length ≤ 100000000 by omega)
      clear hcell hfit hst hce hPA hDN hpl hll hlk
      go_wp2_with (first
        | (go_at_call 64; refine (cput_any ⟨kind, num, name⟩ none 0 0 [] _ HFIT.out (Rd_nil _) (by omega)).mono ?_; rw [List.nil_append, HPA.out]; rintro e w4 ⟨v4, rfl, hf4, hb4⟩; obtain ⟨a4, c4, hv4, hr4⟩ := hf4.form' PA.length rfl; subst hv4; have HRD4 := Lib.hid hr4; have HB4 := Lib.hid ((HB.out.alloc HB.out.size _).trans (hb4.mono (HB.out.alloc HB.out.size _).size)); have HF4 := Lib.hid ((HF.out.alloc _).kept hb4); clear hf4 hb4 hr4)
        | (at_builtin; refine append_rd rfl _ _ rfl w.heap.size _ _ rfl HF4.out _ _ _ PA rfl HRD4.out (by have := HBND.out; omega) HB4.out.size ?_; intro v5 w5 hf5 hb5 _; rw [List.append_assoc, ← HST.out] at hf5; obtain ⟨a5, c5, hv5, -⟩ := hf5.form' n5 HN5.out; subst hv5; have HF5 := Lib.hid hf5; have HB5 := Lib.hid (HB4.out.trans hb5); clear hf5 hb5))
      go_roundw
      case rel => exact ⟨k + 1, _, _, _, rfl, vint (by omega), by omega, HF5, HB5⟩
      case measure => simp [intOf]; omega
    · obtain rfl : k = len := by omega
      have hf := HF.out
      have e1 : E ++ (L.take k).flatMap putA = codeL L := by
        rw [List.take_of_length_le (by rw [HL.out]; exact Nat.le_refl _), ← HE.out, codeL, HL.out]
      rw [e1] at hf
      have HFF := Lib.hid hf
      clear hf e1
      go_wp2_with fail
      go_ret
      exact ⟨_, rfl, HFF.out, HB.out⟩

set_option maxRecDepth 100000 in
set_option maxHeartbeats 1000000 in
theorem ucode_any (a : Option Addr) (len cap : Nat) (L : List Cv) (w : World) (h : Cvs w a len cap L) (hmax : len ≤ 1000000) :
    Calls Try.prog 35 #[.slice a len cap] w fun e w' => ∃ v, e = .returned v ∧ Fr w' w.heap.size v (codeL L) ∧ Below w.heap.size w w' := by
  have HL := Lib.hid h.hlen
  have hm := h.hmax
  have hle := h.hle
  have H := Lib.hid h
  have el : (enc len).length ≤ 9 := P.enc_len len (by omega)
  obtain ⟨E, hE⟩ : ∃ E, enc len = E := ⟨_, rfl⟩
  rw [hE] at el
  have HE := Lib.hid hE
  have HEL := Lib.hid el
  clear h hE el
  go_enter Try.func35, Try.ntmps35
  go_wp2_with (first
    | (go_at_call 34; refine (rnum none 0 0 (len : Int) [] w (Rd_nil w) (by omega) (by omega)).mono ?_; rw [Int.toNat_natCast, HE.out, List.nil_append]; rintro e w1 ⟨v1, rfl, hf1, hb1⟩; obtain ⟨a1, c1, hv1, -⟩ := hf1.form' _ rfl; subst hv1; have HF1 := Lib.hid hf1; have HB1 := Lib.hid hb1; clear hf1 hb1))
  have HF0 : Hid (Fr w1 w.heap.size (.slice a1 E.length c1) (E ++ (L.take 0).flatMap putA)) := by
    apply Lib.hid
    simpa using HF1.out
  go_loopw [3, 4] (fun v i wr => ∃ (k n c : Nat) (x : Option Addr), v = .slice x n c ∧ i = .int .i64 (k : Int) ∧ k ≤ len ∧ Hid (Fr wr w.heap.size (.slice x n c) (E ++ (L.take k).flatMap putA)) ∧ Hid (Below w.heap.size w wr)) (fun _ i _ => len - (intOf i).toNat)
  case atStart => exact ⟨0, _, _, _, rfl, rfl, Nat.zero_le _, HF0, HB1⟩
  case round =>
    obtain ⟨k, n, c, x, rfl, rfl, hk, HF, HB⟩ := hrel
    by_cases hlt : k < len
    · obtain ⟨b, off, rfl, hblt, hcell⟩ := H.out.at (by omega)
      obtain ⟨x0, x1, x2⟩ := hcell k hlt
      have hfit := H.out.fitAt hlt
      have hst := flat_step L k (by rw [HL.out]; exact hlt)
      have hll := flat_len (L.take k)
      rcases hce : L.getD k default with ⟨kind, num, name⟩
      rw [hce] at x0 x1 x2 hfit hst
      simp only at x0 x1 x2
      rw [← HB.out.cell (p := ⟨b, off + k * 3, none⟩) hblt] at x0
      rw [← HB.out.cell (p := ⟨b, off + k * 3 + 1, none⟩) hblt] at x1
      rw [← HB.out.cell (p := ⟨b, off + k * 3 + 2, none⟩) hblt] at x2
      have HFIT := Lib.hid hfit
      obtain ⟨PA, hPA⟩ : ∃ PA, putA ⟨kind, num, name⟩ = PA := ⟨_, rfl⟩
      obtain ⟨DN, hDN⟩ : ∃ DN, (L.take k).flatMap putA = DN := ⟨_, rfl⟩
      rw [hPA] at hst
      rw [hDN] at hst hll HF
      have HST := Lib.hid hst
      obtain ⟨n5, hn5⟩ : ∃ n, (E ++ (L.take (k + 1)).flatMap putA).length = n := ⟨_, rfl⟩
      have HN5 := Lib.hid hn5
      clear hn5
      have HPA := Lib.hid hPA
      have hlk : (L.take k).length ≤ k := by simp; omega
      obtain ⟨a6, c6, hv6, hr6⟩ := HF.out.form' _ rfl
      simp only [Value.slice.injEq] at hv6
      obtain ⟨q1, q2, q3⟩ := hv6
      subst q1 q3
      rw [← q2] at hr6
      have HRD := Lib.hid hr6
      have HQ2 := Lib.hid q2
      clear q2
      have HBND := Lib.hid (show (E ++ DN).length ≤ 100000000 by have := HEL.out; rw [List.length_append]; omega)
      clear hcell hfit hst hce hPA hDN hll hlk hr6
      go_wp2_with (first
        | (go_at_call 72; refine (uput_any ⟨kind, num, name⟩ _ _ _ (E ++ DN) _ HFIT.out HRD.out (by have := HBND.out; have := HQ2.out; omega)).mono ?_; rw [List.append_assoc, HPA.out, ← HST.out]; rintro e w4 ⟨v4, rfl, hf4, hb4⟩; obtain ⟨a4, c4, hv4, -⟩ := hf4.form' n5 HN5.out; subst hv4; have HF4 := Lib.hid (hf4.base HB.out.size); have HB4 := Lib.hid (HB.out.trans (hb4.mono HB.out.size)); clear hf4 hb4))
      go_roundw
      case rel => exact ⟨k + 1, _, _, _, rfl, vint (by omega), by omega, HF4, HB4⟩
      case measure => simp [intOf]; omega
    · obtain rfl : k = len := by omega
      have hf := HF.out
      have e1 : E ++ (L.take k).flatMap putA = codeL L := by
        rw [List.take_of_length_le (by rw [HL.out]; exact Nat.le_refl _), ← HE.out, codeL, HL.out]
      rw [e1] at hf
      have HFF := Lib.hid hf
      clear hf e1
      go_wp2_with fail
      go_ret
      exact ⟨_, rfl, HFF.out, HB.out⟩

end Go.Proofs.Ytmacjpgeamlmhaa.W
